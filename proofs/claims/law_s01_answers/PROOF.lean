import PyProof.Rows.All
import Wide.All
import OpenK.AllK
import Wide.FinOn
import PyProof.EqAt
import PyProof.EqKinds
import PyProof.TupleCall
import KE.BitLaws
import Open.SpecLaws
import KE.OsHead
import KE.OsGo
import PySem.Challenge.RW_basketweights_s01_answers
set_option Elab.async false
set_option linter.all false
set_option maxRecDepth 100000
/-! THE HAND LAYER, for ints, bools, texts, own classes, lists, tuples, dicts, comprehensions, walks over dicts, enumerate, zip, reversed, texts, calls, loops. Paste it whole ahead of your own text; what your proof does not reach may be deleted. -/
namespace L2
open PySem PySem.Spec PyProof.Rows
/-- a key: an int or a str -/
abbrev Key := Sum Int Str
def keyIs : Key → Value → Bool
  | .inl k, v => Value.isInt k v
  | .inr x, v => Value.isStrOf x v
def keyH (w : World) : Key → Int
  | .inl k => hashInt k
  | .inr x => hashStr w x
theorem keyIs_shape : ∀ {k : Key} {v : Value}, keyIs k v = true → (∃ i t, k = Sum.inl i ∧ v = Value.int i t) ∨ (∃ x t, k = Sum.inr x ∧ v = Value.str x t)
  | .inl i, v, h => by
    obtain ⟨t, e⟩ := Value.isInt_shape (k := i) (v := v) h
    exact .inl ⟨i, t, rfl, e⟩
  | .inr x, v, h => by
    obtain ⟨t, e⟩ := Value.isStrOf_shape (x := x) (v := v) h
    exact .inr ⟨x, t, rfl, e⟩
theorem key_ll (a b : Int) : decide ((Sum.inl a : Key) = Sum.inl b) = (a == b) := by
  by_cases e : a = b
  · subst e; simp
  · have h : ¬ (Sum.inl a : Key) = Sum.inl b := fun q => e (Sum.inl.inj q)
    rw [decide_eq_false h]
    exact (beq_eq_false_iff_ne.mpr e).symm
theorem key_rr (a b : Str) : decide ((Sum.inr a : Key) = Sum.inr b) = decide (a = b) := by
  by_cases e : a = b
  · subst e; simp
  · have h : ¬ (Sum.inr a : Key) = Sum.inr b := fun q => e (Sum.inr.inj q)
    rw [decide_eq_false h, decide_eq_false e]
theorem key_lr (a : Int) (b : Str) : decide ((Sum.inl a : Key) = Sum.inr b) = false := decide_eq_false (fun q => nomatch q)
theorem key_rl (a : Str) (b : Int) : decide ((Sum.inr a : Key) = Sum.inl b) = false := decide_eq_false (fun q => nomatch q)
def mixKind (prog : Program) (w : World) : PySem.KeyKind prog w Key where
  is := keyIs
  hash := keyH w
  inj := fun v a b ha hb => by
    rcases keyIs_shape ha with ⟨i, t, rfl, rfl⟩ | ⟨x, t, rfl, rfl⟩
    · rcases keyIs_shape hb with ⟨j, u, rfl, e⟩ | ⟨y, u, rfl, e⟩
      · injection e with e1 _; rw [e1]
      · exact nomatch e
    · rcases keyIs_shape hb with ⟨j, u, rfl, e⟩ | ⟨y, u, rfl, e⟩
      · exact nomatch e
      · injection e with e1 _; rw [e1]
  byValue := fun k v h => by
    rcases keyIs_shape h with ⟨i, t, rfl, rfl⟩ | ⟨x, t, rfl, rfl⟩ <;> rfl
  pyHash := fun hv h => by
    rcases keyIs_shape hv with ⟨i, t, rfl, rfl⟩ | ⟨x, t, rfl, rfl⟩
    · exact wpAny_pyHash_int h
    · exact wpAny_pyHash_str h
  eqBool := fun hu hv h => by
    rcases keyIs_shape hu with ⟨i, t, rfl, rfl⟩ | ⟨x, t, rfl, rfl⟩
    · rcases keyIs_shape hv with ⟨j, u, rfl, rfl⟩ | ⟨y, u, rfl, rfl⟩
      · rw [key_ll] at h; exact wpAny_eqBool_int h
      · rw [key_lr] at h; exact SeqAt.EqAt.int_str i t y u _ _ _ _ h
    · rcases keyIs_shape hv with ⟨j, u, rfl, rfl⟩ | ⟨y, u, rfl, rfl⟩
      · rw [key_rl] at h; exact SeqAt.EqAt.str_int x t j u _ _ _ _ h
      · rw [key_rr] at h; exact wpAny_eqBool_str h
  «strs» := fun k x t v h => by
    rcases keyIs_shape h with ⟨i, u, rfl, e⟩ | ⟨y, u, rfl, e⟩
    · exact nomatch e
    · injection e with e1 _
      subst e1
      cases v <;> rfl
end L2
namespace L2
open PySem PySem.Spec PyProof.Rows
/-- a value, without the heap -/
inductive V where
  | non | bl (b : Bool) | int (i : Int) | str (x : Str) | byt (b : Array UInt8) | flt (b : UInt64) | ref (a : Addr) | ty (n : String)
  deriving DecidableEq
def RelV : V → Value → Prop
  | .non, u => u = Value.none
  | .bl b, u => u = Value.bool b
  | .int i, u => ∃ t, u = Value.int i t
  | .str x, u => ∃ t, u = Value.str x t
  | .byt b, u => ∃ t, u = Value.bytes b t
  | .flt b, u => ∃ t, u = Value.float b t
  | .ref a, u => u = Value.ref a
  | .ty n, u => u = Value.type n
abbrev Vals : List V → List Value → Prop := Paired RelV
theorem Vals.length {xs : List V} {us : List Value} (r : Vals xs us) : xs.length = us.length := Paired.length r
theorem Vals.get : ∀ {xs : List V} {us : List Value} {i : Nat} {x : V}, Vals xs us → xs[i]? = some x → ∃ u, us[i]? = some u ∧ RelV x u
  | _, _, _, _, .nil, e => by simp at e
  | _, _, 0, _, .cons r _, e => by simp at e; subst e; exact ⟨_, rfl, r⟩
  | _, _, i + 1, x, .cons _ t, e => by
    obtain ⟨u, h1, h2⟩ := Vals.get (i := i) (x := x) t (by simpa using e)
    exact ⟨u, by simpa using h1, h2⟩
theorem Vals.set {x : V} {u : Value} (r : RelV x u) : ∀ {xs : List V} {us : List Value} (i : Nat), Vals xs us → Vals (xs.set i x) (us.set i u)
  | _, _, _, .nil => .nil
  | _, _, 0, .cons _ t => .cons r t
  | _, _, i + 1, .cons q t => .cons q (Vals.set r i t)
theorem Vals.append : ∀ {xs ys : List V} {us ws : List Value}, Vals xs us → Vals ys ws → Vals (xs ++ ys) (us ++ ws)
  | _, _, _, _, .nil, s => s
  | _, _, _, _, .cons r t, s => .cons r (Vals.append t s)
theorem Vals.take : ∀ {xs : List V} {us : List Value} (n : Nat), Vals xs us → Vals (xs.take n) (us.take n)
  | _, _, 0, _ => .nil
  | _, _, _ + 1, .nil => .nil
  | _, _, n + 1, .cons r t => .cons r (Vals.take n t)
theorem Vals.drop : ∀ {xs : List V} {us : List Value} (n : Nat), Vals xs us → Vals (xs.drop n) (us.drop n)
  | _, _, 0, r => r
  | _, _, _ + 1, .nil => .nil
  | _, _, n + 1, .cons _ t => Vals.drop n t
theorem Vals.none_of : ∀ {xs : List V} {us : List Value} {i : Nat}, Vals xs us → xs[i]? = none → us[i]? = none := fun {xs us i} r e => by
  have h1 := r.length
  have h2 : xs.length ≤ i := List.getElem?_eq_none_iff.mp e
  exact List.getElem?_eq_none_iff.mpr (by omega)
def RelO : Option V → Option Value → Prop
  | some v, some u => RelV v u
  | none, none => True
  | _, _ => False
def KV {κ : Type} : List (κ × V) → List (κ × Value) → Prop := Paired fun (p : κ × V) (q : κ × Value) => p.1 = q.1 ∧ RelV p.2 q.2
/-- a key of a dict (00_mix): an int or a text -/
def kV : Key → V
  | .inl i => .int i
  | .inr x => .str x
/-- what stands at a tracked address -/
inductive HO where
  /-- a list -/
  | lst (xs : List V)
  /-- a tuple (never changes) -/
  | tup (xs : List V)
  /-- a dict whose keys are ints and texts; one whose keys are tuples of ints and texts (the empty one is both) -/
  | dK (kvs : List (Key × V)) | dT (kvs : List (List Key × V))
  /-- a set of ints: its members, its size -/
  | set (S : Int → Bool) (n : Nat)
  /-- an instance of the class at C, its dict at dx, its attributes -/
  | ins (C dx : Addr) (fs : List (Str × V))
  /-- the dict of the instance at x -/
  | own (x : Addr)
  /-- the dict of an exception -/
  | xd (fs : List (Str × V))
  /-- a bound method, f of x -/
  | met (f x : Addr)
  /-- a range object lo, lo + 1, .. below hi -/
  | rng (lo hi : Int)
  /-- a thing that is known to the object (the script; a dict while a loop walks it): read, never written while it is so -/
  | frz (o : Obj) (u : HO)
  /-- a code object's table -/
  | tbl (ps : Array Value)
  /-- any other thing, by what is true of its one object (a def of one's own: SetO a S n := HO.ext fun h => ..) -/
  | ext (φ : Heap → Prop)
abbrev Hp := Addr → Option HO
def upd (H : Hp) (a : Addr) (o : HO) : Hp := fun b => if b = a then some o else H b
theorem upd_same {H : Hp} {a : Addr} {o : HO} : upd H a o a = some o := by unfold upd; rw [if_pos rfl]
theorem upd_ne {H : Hp} {a b : Addr} {o : HO} (h : b ≠ a) : upd H a o b = H b := by unfold upd; rw [if_neg h]
/-- two objects of different content stand apart -/
theorem ne_of {H : Hp} {a b : Addr} {o u : HO} (h : H a = some o) (h' : H b = some u) (d : o ≠ u) : a ≠ b := by
  intro e; subst e; rw [h] at h'; exact d (Option.some.inj h')
theorem ne_of_none {H : Hp} {a b : Addr} {o : HO} (h : H a = some o) (h' : H b = none) : a ≠ b := by
  intro e; subst e; rw [h] at h'; cases h'
section
variable (P : Program) (w : World)
def ObjOk (H : Hp) (h : Heap) (a : Addr) : HO → Prop
  | .lst xs => xs.length ≤ sizeLine ∧ ∃ (its : List Value) (n : Nat), Vals xs its ∧ h.get? a = some { cls := .type "list", data := .seq its.toArray n }
  | .tup xs => xs.length ≤ sizeLine ∧ ∃ its : List Value, Vals xs its ∧ IsTup h a its.toArray
  | .dK kvs => kvs.length ≤ sizeLine ∧ (a == sysModules) = false ∧ ∃ vs, KV kvs vs ∧ h.DictOf (mixKind P w) a vs
  | .dT kvs => kvs.length ≤ sizeLine ∧ (a == sysModules) = false ∧ ∃ xs : List (List Key × Addr × Value),
      Paired (fun (p : List Key × V) (q : List Key × Addr × Value) => p.1 = q.1 ∧ H q.2.1 = some (.tup (p.1.map kV)) ∧ RelV p.2 q.2.2) kvs xs ∧
      ∃ o es ep, h.get? a = some o ∧ o.ExactDict ∧ o.data = .dict es ep ∧ es.toList = xs.map (entryOfKey (tupleKind (mixKind P w))) ∧ (xs.map (·.1)).Nodup
  | .set S n => h.SetOf (intKind P w) a S n
  | .ins C dx fs => H dx = some (.own a) ∧ fs.length ≤ 1000 ∧ dx ≠ a ∧ h.get? a = some (PySem.W.instObj C dx) ∧
      ∃ mA, h.Ns1 dx mA ∧ (∀ f, RelO (fs.lookup f) (mA f)) ∧ PySem.Within mA (fs.map (·.1))
  | .own _ => ∃ o, h.get? a = some o
  | .xd fs => ∃ mA, h.Ns1 a mA ∧ ∀ f, RelO (fs.lookup f) (mA f)
  | .rng lo hi => ∃ t u v, h.get? a = some { cls := .type "range", data := .fields #[.int lo t, .int hi u, .int 1 v] }
  | .frz o u => h.get? a = some o ∧ ObjOk H h a u
  | .tbl ps => h.get? a = some { cls := .none, data := .fields ps }
  | .met f x => h.get? a = some (PySem.W.methodObj (.ref f) (.ref x))
  | .ext φ => φ h ∧ (∃ o, h.get? a = some o) ∧ ∀ h1 h2 : Heap, φ h1 → (∀ o, h1.get? a = some o → h2.get? a = some o) → φ h2
/-- the abstract heap is held -/
def HOk (H : Hp) (h : Heap) : Prop := ∀ a o, H a = some o → ObjOk P w H h a o
end
section
variable {P : Program} {w : World} {H H' : Hp} {h h' : Heap} {a : Addr} {o : HO}
theorem ObjOk.lt (x : ObjOk P w H h a o) : a < h.objs.size := by
  cases o with
  | lst xs => obtain ⟨_, _, _, _, e⟩ := x; exact Heap.lt_size e
  | tup xs => obtain ⟨_, _, _, p⟩ := x; exact p.lt
  | dK kvs => obtain ⟨_, _, _, _, o, _, _, e, _⟩ := x; exact Heap.lt_size e
  | dT kvs => obtain ⟨_, _, _, _, o, _, _, e, _⟩ := x; exact Heap.lt_size e
  | set S n => obtain ⟨o, _, _, _, e, _⟩ := x; exact Heap.lt_size e
  | ins C dx fs => obtain ⟨_, _, _, e, _⟩ := x; exact Heap.lt_size e
  | own y => obtain ⟨_, e⟩ := x; exact Heap.lt_size e
  | xd fs => obtain ⟨_, ⟨_, _, _, e, _⟩, _⟩ := x; exact Heap.lt_size e
  | rng lo hi => obtain ⟨_, _, _, e⟩ := x; exact Heap.lt_size e
  | frz ob u => obtain ⟨e, _⟩ := x; exact Heap.lt_size e
  | tbl ps => exact Heap.lt_size (show h.get? a = some _ from x)
  | met f y => exact Heap.lt_size (show h.get? a = some _ from x)
  | ext φ => obtain ⟨_, ⟨_, e⟩, _⟩ := x; exact Heap.lt_size e
theorem Paired.mapP {α β : Type} {F G : α → β → Prop} : ∀ {l₁ : List α} {l₂ : List β}, Paired F l₁ l₂ → (∀ a b, F a b → G a b) → Paired G l₁ l₂
  | _, _, .nil, _ => .nil
  | _, _, .cons r t, f => .cons (f _ _ r) (Paired.mapP t f)
/-- what an object's description leans on: its own object, its own dict, the tuples -/
theorem ObjOk.stay (x : ObjOk P w H h a o) (k : ∀ b u, (b = a ∨ H b = some (.own a)) → h.get? b = some u → h'.get? b = some u)
    (ho : ∀ b, H b = some (.own a) → H' b = some (.own a)) (ht : ∀ b xs, H b = some (.tup xs) → H' b = some (.tup xs)) : ObjOk P w H' h' a o := by
  induction o with
  | lst xs => obtain ⟨z, its, n, r, e⟩ := x; exact ⟨z, its, n, r, k _ _ (.inl rfl) e⟩
  | tup xs => obtain ⟨z, its, r, ob, e, c⟩ := x; exact ⟨z, its, r, ob, k _ _ (.inl rfl) e, c⟩
  | dK kvs => obtain ⟨z, y, vs, r, ob, es, ep, e, c⟩ := x; exact ⟨z, y, vs, r, ob, es, ep, k _ _ (.inl rfl) e, c⟩
  | dT kvs =>
    obtain ⟨z, y, xs, r, ob, es, ep, e, c⟩ := x
    exact ⟨z, y, xs, Paired.mapP r fun p q z => ⟨z.1, ht _ _ z.2.1, z.2.2⟩, ob, es, ep, k _ _ (.inl rfl) e, c⟩
  | set S n => obtain ⟨ob, es, ep, t, e, c⟩ := x; exact ⟨ob, es, ep, t, k _ _ (.inl rfl) e, c⟩
  | ins C dx fs =>
    obtain ⟨d, z, ne, e, mA, ⟨od, es, ep, e2, c⟩, r⟩ := x
    exact ⟨ho _ d, z, ne, k _ _ (.inl rfl) e, mA, ⟨od, es, ep, k _ _ (.inr d) e2, c⟩, r⟩
  | own y => obtain ⟨ob, e⟩ := x; exact ⟨ob, k _ _ (.inl rfl) e⟩
  | xd fs => obtain ⟨mA, ⟨od, es, ep, e, c⟩, r⟩ := x; exact ⟨mA, ⟨od, es, ep, k _ _ (.inl rfl) e, c⟩, r⟩
  | rng lo hi => obtain ⟨t, u, v, e⟩ := x; exact ⟨t, u, v, k _ _ (.inl rfl) e⟩
  | frz ob u ih => obtain ⟨e, q⟩ := x; exact ⟨k _ _ (.inl rfl) e, ih q⟩
  | tbl ps =>
    have e : h.get? a = some { cls := .none, data := .fields ps } := x
    show h'.get? a = some { cls := .none, data := .fields ps }
    exact k a _ (.inl rfl) e
  | met f y =>
    have e : h.get? a = some (PySem.W.methodObj (.ref f) (.ref y)) := x
    show h'.get? a = some (PySem.W.methodObj (.ref f) (.ref y))
    exact k a _ (.inl rfl) e
  | ext φ => obtain ⟨p, ⟨o, e⟩, st⟩ := x; exact ⟨st _ _ p fun o q => k _ _ (.inl rfl) q, ⟨o, k _ _ (.inl rfl) e⟩, st⟩
theorem HOk.lt (x : HOk P w H h) (e : H a = some o) : a < h.objs.size := (x a o e).lt
theorem HOk.fresh (x : HOk P w H h) (e : h.objs.size ≤ a) : H a = none := by
  cases q : H a with
  | none => rfl
  | some u => exact absurd (Nat.lt_of_lt_of_le (x.lt q) e) (Nat.lt_irrefl _)
/-- every object of the heap is kept -/
theorem HOk.kept (x : HOk P w H h) (k : ∀ b u, h.get? b = some u → h'.get? b = some u) : HOk P w H h' := fun a o e =>
  (x a o e).stay (fun b u _ q => k b u q) (fun _ q => q) fun _ _ q => q
/-- a new object is laid and tracked -/
theorem HOk.laid (x : HOk P w H h) (k : ∀ b u, h.get? b = some u → h'.get? b = some u) (hp : h.objs.size ≤ a) (new : ObjOk P w (upd H a o) h' a o) : HOk P w (upd H a o) h' := fun b u e => by
  have hn := x.fresh hp
  by_cases hb : b = a
  · subst hb; rw [upd_same] at e; cases e; exact new
  · rw [upd_ne hb] at e
    exact (x b u e).stay (fun c v _ q => k c v q) (fun c q => by rw [upd_ne (ne_of_none q hn)]; exact q) fun c xs q => by rw [upd_ne (ne_of_none q hn)]; exact q
end
/-- what may be read as u: it is u, or a known u -/
def Rd (H : Hp) (a : Addr) (u : HO) : Prop := H a = some u ∨ ∃ o, H a = some (.frz o u)
theorem Rd.of {H : Hp} {a : Addr} {u : HO} (h : H a = some u) : Rd H a u := .inl h
theorem Rd.ok {P : Program} {w : World} {H : Hp} {h : Heap} {a : Addr} {u : HO} (r : Rd H a u) (x : HOk P w H h) : ObjOk P w H h a u := by
  rcases r with r | ⟨o, r⟩
  · exact x a u r
  · obtain ⟨_, q⟩ := x a _ r
    exact q
/-- what may be written -/
def Mut : Option HO → Prop
  | some (.lst _) => True
  | some (.dK _) => True
  | some (.dT _) => True
  | some (.set _ _) => True
  | some (.ins _ _ _) => True
  | some (.ext _) => True
  | _ => False
section
variable {P : Program} {w : World} {H : Hp} {h h' : Heap} {x e : Addr} {o' : HO}
/-- the object at e is changed: x itself, or the dict of the instance x -/
theorem HOk.write (ok : HOk P w H h) (mu : Mut (H x)) (he : e = x ∨ H e = some (.own x)) (k : ∀ b u, b ≠ e → h.get? b = some u → h'.get? b = some u) (heo : ∃ u, h'.get? e = some u)
    (new : ObjOk P w (upd H x o') h' x o') : HOk P w (upd H x o') h' := fun b u q => by
  have nown : ∀ c y, H c = some (.own y) → c ≠ x := fun c y r z => by subst z; rw [r] at mu; exact mu
  have ntup : ∀ c xs, H c = some (.tup xs) → c ≠ x := fun c xs r z => by subst z; rw [r] at mu; exact mu
  by_cases hb : b = x
  · subst hb; rw [upd_same] at q; cases q; exact new
  · rw [upd_ne hb] at q
    by_cases hbe : b = e
    · have q' : H b = some (.own x) := by
        rcases he with z | z
        · exact absurd (hbe.trans z) hb
        · rw [hbe]; exact z
      rw [q] at q'; cases q'
      obtain ⟨v, hv⟩ := heo
      exact ⟨v, by rw [hbe]; exact hv⟩
    · refine (ok b u q).stay (fun c v hc r => k c v ?_ r) (fun c r => by rw [upd_ne (nown c b r)]; exact r) fun c xs r => by rw [upd_ne (ntup c xs r)]; exact r
      rcases hc with rfl | hc
      · exact hbe
      · rintro rfl
        rcases he with z | z
        · exact nown c b hc z
        · rw [hc] at z; cases z; exact hb rfl
end
/-! ### kept unless tracked; of the frames at fs (the callers') the slots may change (an exception that passes writes there); of the records at ex (iterators) nothing is said -/
structure Un (fs ex : List Addr) (H H' : Hp) (h h' : Heap) : Prop where
  keep : ∀ b o, h.get? b = some o → H b = none → b ∉ fs → b ∉ ex → h'.get? b = some o
  slot : ∀ b o, h.get? b = some o → H b = none → b ∈ fs → b ∉ ex → ∃ sl, h'.get? b = some { o with slots := sl }
  free : ∀ b o, h.get? b = some o → H b = none → b ∉ ex → H' b = none
  there : ∀ b o, h.get? b = some o → b ∉ ex → ∃ o', h'.get? b = some o'
  tups : ∀ b xs, H b = some (.tup xs) → H' b = some (.tup xs)
  frzs : ∀ b o u, H b = some (.frz o u) → H' b = some (.frz o u)
  tbls : ∀ b ps, H b = some (.tbl ps) → ∃ more, H' b = some (.tbl (ps ++ more))
section
variable {fs fs' ex ex' : List Addr} {H H1 H2 : Hp} {h h1 h2 h' : Heap} {a x e : Addr} {o : HO}
theorem Un.any (u : Un fs ex H H1 h h1) {b : Addr} {ob : Obj} (q : h.get? b = some ob) (n : H b = none) (hx : b ∉ ex) : ∃ sl, h1.get? b = some { ob with slots := sl } := by
  by_cases hb : b ∈ fs
  · exact u.slot b ob q n hb hx
  · exact ⟨ob.slots, u.keep b ob q n hb hx⟩
theorem Un.trans (a : Un fs ex H H1 h h1) (b : Un fs ex H1 H2 h1 h2) : Un fs ex H H2 h h2 where
  keep := fun c ob q n hc hx => b.keep c ob (a.keep c ob q n hc hx) (a.free c ob q n hx) hc hx
  slot := fun c ob q n hc hx => by
    obtain ⟨sl, e1⟩ := a.slot c ob q n hc hx
    obtain ⟨sl', e2⟩ := b.slot c _ e1 (a.free c ob q n hx) hc hx
    exact ⟨sl', e2⟩
  free := fun c ob q n hx => by
    obtain ⟨o', e1⟩ := a.there c ob q hx
    exact b.free c o' e1 (a.free c ob q n hx) hx
  there := fun c ob q hx => by
    obtain ⟨o', e1⟩ := a.there c ob q hx
    exact b.there c o' e1 hx
  tups := fun c xs q => b.tups c xs (a.tups c xs q)
  frzs := fun c ob xs q => b.frzs c ob xs (a.frzs c ob xs q)
  tbls := fun c ps q => by
    obtain ⟨m1, e1⟩ := a.tbls c ps q
    obtain ⟨m2, e2⟩ := b.tbls c _ e1
    exact ⟨m1 ++ m2, by rw [e2, Array.append_assoc]⟩
theorem Un.kept (k : ∀ b u, h.get? b = some u → h'.get? b = some u) : Un fs ex H H h h' :=
  ⟨fun b ob q _ _ _ => k b ob q, fun b ob q _ _ _ => ⟨ob.slots, k b ob q⟩, fun _ _ _ n _ => n, fun b ob q _ => ⟨ob, k b ob q⟩, fun _ _ q => q, fun _ _ _ q => q, fun _ ps q => ⟨#[], by rw [q]; simp⟩⟩
theorem Un.refl : Un fs ex H H h h := Un.kept fun _ _ q => q
theorem Un.laid (k : ∀ b u, h.get? b = some u → h'.get? b = some u) (hp : h.objs.size ≤ a) (hn : H a = none) : Un fs ex H (upd H a o) h h' where
  keep := fun b u q _ _ _ => k b u q
  slot := fun b u q _ _ _ => ⟨u.slots, k b u q⟩
  free := fun b u q n _ => by rw [upd_ne (Nat.ne_of_lt (Nat.lt_of_lt_of_le (Heap.lt_size q) hp))]; exact n
  there := fun b u q _ => ⟨u, k b u q⟩
  tups := fun b xs q => by rw [upd_ne (ne_of_none q hn)]; exact q
  frzs := fun b u xs q => by rw [upd_ne (ne_of_none q hn)]; exact q
  tbls := fun b ps q => ⟨#[], by rw [upd_ne (ne_of_none q hn), q]; simp⟩
theorem Un.write (mu : Mut (H x)) (he : e = x ∨ H e = some (.own x)) (k : ∀ b u, b ≠ e → h.get? b = some u → h'.get? b = some u) (heo : ∃ u, h'.get? e = some u) : Un fs ex H (upd H x o) h h' := by
  have hx : ∀ b, H b = none → b ≠ x := fun b n z => by subst z; rw [n] at mu; exact mu
  have hb : ∀ b, H b = none → b ≠ e := fun b n z => by
    subst z
    rcases he with r | r
    · exact hx b n r
    · rw [n] at r; cases r
  have hm : ∀ b u, H b = some u → ¬ Mut (some u) → b ≠ x := fun b u q nm z => by subst z; rw [q] at mu; exact nm mu
  refine ⟨fun b u q n _ _ => k b u (hb b n) q, fun b u q n _ _ => ⟨u.slots, k b u (hb b n) q⟩, fun b u q n _ => by rw [upd_ne (hx b n)]; exact n, fun b u q _ => ?_,
    fun b xs q => by rw [upd_ne (hm b _ q fun z => z)]; exact q, fun b u xs q => by rw [upd_ne (hm b _ q fun z => z)]; exact q, fun b ps q => ⟨#[], by rw [upd_ne (hm b _ q fun z => z), q]; simp⟩⟩
  by_cases hbe : b = e
  · subst hbe; exact heo
  · exact ⟨u, k b u hbe q⟩
theorem Un.mono (u : Un fs ex H H1 h h1) (hs : ∀ b ∈ fs, b ∈ fs') (hx : ∀ b ∈ ex, b ∈ ex') : Un fs' ex' H H1 h h1 :=
  ⟨fun b ob q n hb he => u.keep b ob q n (fun z => hb (hs b z)) fun z => he (hx b z), fun _ _ q n _ he => u.any q n fun z => he (hx _ z), fun b ob q n he => u.free b ob q n fun z => he (hx b z), fun b ob q he => u.there b ob q fun z => he (hx b z), u.tups, u.frzs, u.tbls⟩
end
/-! ### the heap without what is tracked -/
def trk (h : Heap) (H : Hp) : List Addr := (List.range h.objs.size).filter fun a => (H a).isSome
def hidT (h : Heap) (H : Hp) : Heap := PySem.W.hideAll h (trk h H)
theorem hidT_size (h : Heap) (H : Hp) : (hidT h H).objs.size = h.objs.size := PySem.W.hideAll_size _ _
theorem hidT_get {h : Heap} {H : Hp} {b : Addr} {o : Obj} (e : h.get? b = some o) (n : H b = none) : (hidT h H).get? b = some o :=
  PySem.W.hideAll_get _ e fun hm => by
    have q : (H b).isSome = true := (List.mem_filter.mp hm).2
    rw [n] at q; simp at q
theorem of_hidT {h : Heap} {H : Hp} {b : Addr} {o : Obj} (e : (hidT h H).get? b = some o) : h.get? b = some o ∧ H b = none := by
  have e' : h.get? b = some o := PySem.W.of_hideAll (trk h H) e
  refine ⟨e', ?_⟩
  cases q : H b with
  | none => rfl
  | some x =>
    have hm : b ∈ trk h H := List.mem_filter.mpr ⟨List.mem_range.mpr (Heap.lt_size e'), by simp [q]⟩
    have z : (hidT h H).get? b = none := PySem.W.hideAll_none (trk h H) hm
    rw [z] at e; cases e
/-! ### OpenK's ledger, filled with every new object but one -/
def allNews (g h : Heap) (L : Addr) : List (Addr × Obj) := (List.range h.objs.size).filterMap fun a => if a = L ∨ (g.get? a).isSome = true then none else (h.get? a).map fun o => (a, o)
def rest (g h : Heap) (L d : Addr) : List (Addr × Obj) := (allNews g h L).filter fun p => decide (p.1 ≠ d)
end L2
namespace L2
open PySem PySem.Spec PyProof.Rows
/-- the module's facts, over the base: the heap at the law's entry without what is tracked there -/
structure Mod (K : PySem.W.Frag) (mg : Str → Option Value) (base : Heap) : Prop where
  kin : K.In base
  glob : base.Ns mainGlobals mg
  blt : ∃ mb, base.Ns builtinsNs mb ∧ ∀ x : Str, x ≠ "__name__" → mb x = bootBuiltins x
  nolimit : base.NoLimit
/-- the context: a def's body (or a comprehension's block) running. base: fixed through the whole law; s₀, H₀: the entry; outer: the frames whose slots others may change (a def's callers); stack: all frames that run;
   ex: iterators that were made ahead of the entry and are walked here (a comprehension's); fn: the names whose cells were made at the entry (a def: all; a comprehension's block: its own); calm: not within an except suite; pn: pins that every state bears; xe: what is wanted of an exception that leaves the code -/
structure Cx where
  prog : Program
  w : World
  K : PySem.W.Frag
  mg : Str → Option Value
  base : Heap
  A : Around
  N : List Str
  s_0 : Shared
  H_0 : Hp
  env : Env
  outer : List Env
  stack : List Env
  ex : List Addr
  fn : Str → Bool
  calm : Bool
  pn : List (Addr × Obj)
  xe : Value → Shared → Prop
/-- the callers' frames -/
def frs (l : List Env) : List Addr := l.filterMap (·.frame)
abbrev Cx.fs (X : Cx) : List Addr := frs X.outer
def Vis (sc : Scope) (x : Str) : Prop := sc.names.lookup x = some .local ∨ sc.names.lookup x = some .cell ∨ sc.names.lookup x = some .free
def Loc (sc : Scope) (x : Str) : Prop := sc.names.lookup x = some .local ∨ sc.names.lookup x = some .cell
def Look (env : Env) (h : Heap) (m : Str → Option Value) (x : Str) (u : Value) : Prop :=
  (env.kindOf x = some .local ∧ m x = some u) ∨ ((env.kindOf x = some .cell ∨ env.kindOf x = some .free) ∧ ∃ c, env.cells.lookup x = some c ∧ h.IsCell c (some u))
structure Cx.Ok (X : Cx) : Prop where
  mod : Mod X.K X.mg X.base
  kind : X.env.scope.kind = .function
  glob : X.env.globals = mainGlobals
  blt : X.env.builtins = builtinsNs
  above : X.s_0.heap.objs.size ≤ X.env.locals
  inj : ∀ x y c, X.env.cells.lookup x = some c → X.env.cells.lookup y = some c → x = y
  has : ∀ x, (X.env.kindOf x = some .cell ∨ X.env.kindOf x = some .free) → ∃ c, X.env.cells.lookup x = some c
  cab : ∀ x c, X.fn x = true → X.env.cells.lookup x = some c → X.s_0.heap.objs.size ≤ c
  hd : X.calm = true → X.A.handled = none
  frames : X.A.frames = some X.stack
  stk : X.stack = X.outer ∨ (X.stack = X.env :: X.outer ∧ X.env.frame = some X.env.locals)
  exf : ∀ b ∈ X.ex, b ≠ X.env.locals ∧ ∀ x c, X.env.cells.lookup x = some c → c ≠ b
  bs : ∀ b o, X.base.get? b = some o → X.s_0.heap.get? b = some o ∧ X.H_0 b = none
  bsz : X.base.objs.size ≤ X.s_0.heap.objs.size
  noex : ∀ b o, X.base.get? b = some o → b ∉ X.ex
  exfs : ∀ b ∈ X.ex, b ∉ X.fs
  funs : X.s_0.heap.FunFrames X.base X.outer
  frf : ∀ b ∈ X.fs, X.H_0 b = none
structure Inv (X : Cx) (pins : List (Addr × Obj)) (σ : List (Option V)) (H : Hp) (s : Shared) : Prop where
  ok : X.Ok
  os : s.os = X.s_0.os
  bare : AllBare s.gens
  base : Un X.fs X.ex X.H_0 H X.s_0.heap s.heap
  loc : ∃ m, s.heap.Ns X.env.locals m ∧ ∀ (i : Nat) (x : Str) (v : V), X.N[i]? = some x → σ[i]? = some (some v) → Vis X.env.scope x → ∃ u, RelV v u ∧ Look X.env s.heap m x u
  cell : ∀ x c, X.env.cells.lookup x = some c → ∃ v, s.heap.IsCell c v
  free : H X.env.locals = none
  freeC : ∀ x c, X.env.cells.lookup x = some c → H c = none
  pin : ∀ p ∈ X.pn ++ pins, s.heap.get? p.1 = some p.2 ∧ H p.1 = none ∧ p.1 ≠ X.env.locals ∧ p.1 ∉ X.fs ∧ ∀ v, p.2.data ≠ .cell v
  hok : HOk X.prog X.w H s.heap
  len : σ.length = X.N.length
section
variable {X : Cx} {pins : List (Addr × Obj)} {σ : List (Option V)} {H H' : Hp} {s : Shared} {h' : Heap}
theorem Cx.Ok.nofr (ok : X.Ok) {b : Addr} {o : Obj} (e : X.base.get? b = some o) : b ∉ X.fs := fun hb => by
  have := (ok.funs.mem hb).1
  rw [e] at this; cases this
theorem Inv.bs (I : Inv X pins σ H s) : ∀ b o, X.base.get? b = some o → s.heap.get? b = some o ∧ H b = none := fun b o e =>
  ⟨I.base.keep b o (I.ok.bs b o e).1 (I.ok.bs b o e).2 (I.ok.nofr e) (I.ok.noex b o e), I.base.free b o (I.ok.bs b o e).1 (I.ok.bs b o e).2 (I.ok.noex b o e)⟩
theorem Inv.bk (I : Inv X pins σ H s) : ∀ b o, X.base.get? b = some o → s.heap.get? b = some o := fun b o e => (I.bs b o e).1
theorem Inv.mod (I : Inv X pins σ H s) : Mod X.K X.mg X.base := I.ok.mod
theorem Inv.kIn (I : Inv X pins σ H s) : X.K.In s.heap := I.ok.mod.kin.keeps I.bk
theorem Inv.nolimit (I : Inv X pins σ H s) : s.heap.NoLimit := I.ok.mod.nolimit.keeps I.bk
/-- the frame over the base: for OpenK's rules (K.In X.base is I.mod.kin) -/
theorem Inv.fr (I : Inv X pins σ H s) : ∃ m, Fr X.base X.env.locals s.heap m :=
  let ⟨m, hn, _⟩ := I.loc
  ⟨m, hn, I.bk, Nat.le_trans I.ok.bsz I.ok.above⟩
theorem Inv.lt (I : Inv X pins σ H s) : X.env.locals < s.heap.objs.size := let ⟨_, hn, _⟩ := I.loc; hn.lt
theorem Inv.sz (I : Inv X pins σ H s) : X.s_0.heap.objs.size ≤ s.heap.objs.size := Nat.le_trans I.ok.above (Nat.le_of_lt I.lt)
theorem Inv.nofs (I : Inv X pins σ H s) {a : Addr} (h : s.heap.objs.size ≤ a) : a ∉ X.fs := fun hb => by
  obtain ⟨_, o, ho, _⟩ := I.ok.funs.mem hb
  exact absurd (Nat.lt_of_lt_of_le (Heap.lt_size ho) (Nat.le_trans I.sz h)) (Nat.lt_irrefl _)
theorem Inv.cne (I : Inv X pins σ H s) : ∀ x c, X.env.cells.lookup x = some c → c ≠ X.env.locals := fun x c e z => by
  obtain ⟨v, o, ho, hd⟩ := I.cell x c e
  obtain ⟨m, ⟨o', es, ep, ho', hd', _⟩, _⟩ := I.loc
  rw [z, ho'] at ho; cases ho; rw [hd'] at hd; cases hd
theorem Inv.funs (I : Inv X pins σ H s) : s.heap.FunFrames X.base X.outer := by
  have all : ∀ (l : List Env), (∀ b ∈ frs l, b ∈ X.fs) → X.s_0.heap.FunFrames X.base l → s.heap.FunFrames X.base l := by
    intro l
    induction l with
    | nil => intro _ _; trivial
    | cons env r ih =>
      intro hs hl
      obtain ⟨hk, ⟨L, o, hf, hn, ho, hd⟩, hr⟩ := hl
      have hL : L ∈ X.fs := hs L (by unfold frs; rw [List.filterMap_cons, hf]; exact List.mem_cons_self)
      obtain ⟨sl, e⟩ := I.base.slot L o ho (I.ok.frf L hL) hL fun z => I.ok.exfs L z hL
      exact ⟨hk, ⟨L, _, hf, hn, e, hd⟩, ih (fun b hb => hs b (by unfold frs; rw [List.filterMap_cons, hf]; exact List.mem_cons_of_mem _ hb)) hr⟩
  exact all X.outer (fun _ hb => hb) I.ok.funs
/-- the frames that run, for a call -/
theorem Inv.stack (I : Inv X pins σ H s) : s.heap.FunFrames X.base X.stack := by
  rcases I.ok.stk with e | ⟨e, hf⟩
  · rw [e]; exact I.funs
  · rw [e]
    obtain ⟨m, hn, _⟩ := I.loc
    refine .cons (by rw [I.ok.kind]; decide) hf hn ?_ I.funs
    exact Heap.get?_none_of_le (Nat.le_trans I.ok.bsz I.ok.above)
theorem Inv.stkSub (I : Inv X pins σ H s) : ∀ b ∈ frs X.stack, b ∈ X.env.locals :: X.fs := fun b hb => by
  rcases I.ok.stk with e | ⟨e, hf⟩
  · rw [e] at hb; exact List.mem_cons_of_mem _ hb
  · rw [e] at hb
    unfold frs at hb
    rw [List.filterMap_cons, hf] at hb
    exact hb
theorem Inv.stkFree (I : Inv X pins σ H s) : ∀ b ∈ frs X.stack, H b = none := fun b hb => by
  rcases List.mem_cons.mp (I.stkSub b hb) with e | hb
  · rw [e]; exact I.free
  · obtain ⟨_, o, ho, _⟩ := I.ok.funs.mem hb
    exact I.base.free b o ho (I.ok.frf b hb) fun z => I.ok.exfs b z hb
/-- THE STEP: the untracked objects but the frame and the records at ch are kept (the callers' frames up to slots), the frame's map is kept, the new abstract heap is held -/
theorem Inv.step {g' : Array GenState} {t' : Nat} {d' : Drawn} {ch : List Addr} (I : Inv X pins σ H s)
    (hch : ∀ b ∈ ch, (b ∈ X.ex ∨ X.s_0.heap.objs.size ≤ b) ∧ b ≠ X.env.locals ∧ (∀ x c, X.env.cells.lookup x = some c → c ≠ b) ∧ ∀ p ∈ X.pn ++ pins, p.1 ≠ b)
    (keep : ∀ b o, b ≠ X.env.locals → b ∉ X.fs → b ∉ ch → s.heap.get? b = some o → H b = none → h'.get? b = some o)
    (slot : ∀ b o, b ≠ X.env.locals → b ∈ X.fs → b ∉ ch → s.heap.get? b = some o → H b = none → ∃ sl, h'.get? b = some { o with slots := sl }) (free : ∀ b o, b ∉ ch → s.heap.get? b = some o → H b = none → H' b = none)
    (there : ∀ b o, b ∉ ch → s.heap.get? b = some o → ∃ o', h'.get? b = some o')
    (tups : ∀ b xs, H b = some (.tup xs) → H' b = some (.tup xs)) (frzs : ∀ b o u, H b = some (.frz o u) → H' b = some (.frz o u)) (tbls : ∀ b ps, H b = some (.tbl ps) → ∃ more, H' b = some (.tbl (ps ++ more)))
    (ns : ∀ m, s.heap.Ns X.env.locals m → h'.Ns X.env.locals m) (hok : HOk X.prog X.w H' h') (hg : AllBare g') :
    Inv X pins σ H' { s with heap := h', gens := g', drawn := d', toks := t' } := by
  have neL : ∀ b o, X.s_0.heap.get? b = some o → b ≠ X.env.locals := fun b o e => Nat.ne_of_lt (Nat.lt_of_lt_of_le (Heap.lt_size e) I.ok.above)
  have neC : ∀ b o, X.s_0.heap.get? b = some o → b ∉ X.ex → b ∉ ch := fun b o e hx hb => by
    rcases (hch b hb).1 with z | z
    · exact hx z
    · exact absurd (Nat.lt_of_lt_of_le (Heap.lt_size e) z) (Nat.lt_irrefl _)
  have cellK : ∀ x c, X.env.cells.lookup x = some c → ∀ v, s.heap.IsCell c v → h'.IsCell c v := fun x c e v ⟨o, ho, hd⟩ => by
    have nch : c ∉ ch := fun z => (hch c z).2.2.1 x c e rfl
    by_cases hc : c ∈ X.fs
    · obtain ⟨sl, q⟩ := slot c o (I.cne x c e) hc nch ho (I.freeC x c e)
      exact ⟨_, q, hd⟩
    · exact ⟨o, keep c o (I.cne x c e) hc nch ho (I.freeC x c e), hd⟩
  refine ⟨I.ok, I.os, hg, ⟨fun b o e n hb hx => ?_, fun b o e n hb hx => ?_, fun b o e n hx => ?_, fun b o e hx => ?_, fun b xs e => tups b xs (I.base.tups b xs e), fun b o xs e => frzs b o xs (I.base.frzs b o xs e), fun b ps e => ?_⟩, ?_, fun x c e => ?_, ?_, fun x c e => ?_, fun p hp => ?_, hok, I.len⟩
  · exact keep b o (neL b o e) hb (neC b o e hx) (I.base.keep b o e n hb hx) (I.base.free b o e n hx)
  · obtain ⟨sl, e1⟩ := I.base.slot b o e n hb hx
    obtain ⟨sl', e2⟩ := slot b _ (neL b o e) hb (neC b o e hx) e1 (I.base.free b o e n hx)
    exact ⟨sl', e2⟩
  · obtain ⟨o', e1⟩ := I.base.there b o e hx
    exact free b o' (neC b o e hx) e1 (I.base.free b o e n hx)
  · obtain ⟨o', e1⟩ := I.base.there b o e hx
    exact there b o' (neC b o e hx) e1
  · obtain ⟨m1, e1⟩ := I.base.tbls b ps e
    obtain ⟨m2, e2⟩ := tbls b _ e1
    exact ⟨m1 ++ m2, by rw [e2, Array.append_assoc]⟩
  · obtain ⟨m, hn, hl⟩ := I.loc
    refine ⟨m, ns m hn, fun i x v e1 e2 e3 => ?_⟩
    obtain ⟨u, r, l⟩ := hl i x v e1 e2 e3
    refine ⟨u, r, ?_⟩
    rcases l with l | ⟨k, c, e, z⟩
    · exact .inl l
    · exact .inr ⟨k, c, e, cellK x c e _ z⟩
  · obtain ⟨v, z⟩ := I.cell x c e
    exact ⟨v, cellK x c e v z⟩
  · obtain ⟨m, ⟨o, _, _, ho, _⟩, _⟩ := I.loc
    exact free _ o (fun z => (hch _ z).2.1 rfl) ho I.free
  · obtain ⟨v, o, ho, hd⟩ := I.cell x c e
    exact free c o (fun z => (hch c z).2.2.1 x c e rfl) ho (I.freeC x c e)
  · obtain ⟨e, n, ne, nf, d⟩ := I.pin p hp
    have nch : p.1 ∉ ch := fun z => (hch p.1 z).2.2.2 p hp rfl
    exact ⟨keep p.1 p.2 ne nf nch e n, free p.1 p.2 nch e n, ne, nf, d⟩
/-- .. where the frame's own object is kept too -/
theorem Inv.un {t' : Nat} (I : Inv X pins σ H s) (u : Un X.fs [] H H' s.heap h') (hok : HOk X.prog X.w H' h') : Inv X pins σ H' { s with heap := h', toks := t' } := by
  obtain ⟨m, ⟨o, es, ep, ho, r⟩, _⟩ := id I.loc
  obtain ⟨sl, hL⟩ := u.any ho I.free (by simp)
  exact I.step (g' := s.gens) (d' := s.drawn) (ch := []) (fun _ z => nomatch z) (fun b o _ hb _ e n => u.keep b o e n hb (by simp)) (fun b o _ hb _ e n => u.slot b o e n hb (by simp)) (fun b o _ e n => u.free b o e n (by simp)) (fun b o _ e => u.there b o e (by simp)) u.tups u.frzs u.tbls (fun m' hm => by
    obtain ⟨o', es', ep', ho', r'⟩ := hm
    rw [ho] at ho'; cases ho'
    exact ⟨_, es', ep', hL, r'⟩) hok I.bare
/-- behind a call (or a comprehension's block): the slots of this frame may have changed too, the records at ch may have turned -/
theorem Inv.call {g' : Array GenState} {t' : Nat} {d' : Drawn} {ch : List Addr} (I : Inv X pins σ H s) (u : Un (frs X.stack) ch H H' s.heap h') (hok : HOk X.prog X.w H' h') (hg : AllBare g')
    (hch : ∀ b ∈ ch, (b ∈ X.ex ∨ X.s_0.heap.objs.size ≤ b) ∧ b ≠ X.env.locals ∧ (∀ x c, X.env.cells.lookup x = some c → c ≠ b) ∧ ∀ p ∈ X.pn ++ pins, p.1 ≠ b) :
    Inv X pins σ H' { s with heap := h', gens := g', drawn := d', toks := t' } := by
  obtain ⟨m, ⟨o, es, ep, ho, r⟩, _⟩ := id I.loc
  obtain ⟨sl, hL⟩ := u.any ho I.free fun z => (hch _ z).2.1 rfl
  exact I.step (ch := ch) hch (fun b o hL hb hc e n => u.keep b o e n (fun z => (List.mem_cons.mp (I.stkSub b z)).elim hL hb) hc) (fun b o _ _ hc e n => u.any e n hc) (fun b o hc e n => u.free b o e n hc) (fun b o hc e => u.there b o e hc) u.tups u.frzs u.tbls (fun m' hm => by
    obtain ⟨o', es', ep', ho', r'⟩ := hm
    rw [ho] at ho'; cases ho'
    exact ⟨_, es', ep', hL, r'⟩) hok hg
/-- an untracked record of ours (an iterator) has turned -/
theorem Inv.turned {t' : Nat} {it : Addr} (I : Inv X pins σ H s) (k : ∀ b o, b ≠ it → s.heap.get? b = some o → h'.get? b = some o) (hn : H it = none) (hL : it ≠ X.env.locals)
    (h1 : it ∈ X.ex ∨ X.s_0.heap.objs.size ≤ it) (h2 : ∀ x c, X.env.cells.lookup x = some c → c ≠ it) (h3 : ∀ p ∈ X.pn ++ pins, p.1 ≠ it) : Inv X pins σ H { s with heap := h', toks := t' } := by
  have nit : ∀ b u, H b = some u → b ≠ it := fun b u e z => by rw [z, hn] at e; cases e
  refine I.step (g' := s.gens) (d' := s.drawn) (ch := [it]) (fun b hb => ?_) (fun b o _ _ hc e _ => k b o (fun z => hc (by simp [z])) e) (fun b o _ _ hc e _ => ⟨o.slots, k b o (fun z => hc (by simp [z])) e⟩) (fun _ _ _ _ n => n)
    (fun b o hc e => ⟨o, k b o (fun z => hc (by simp [z])) e⟩) (fun _ _ e => e) (fun _ _ _ e => e) (fun b ps e => ⟨#[], by rw [e]; simp⟩) (fun m hm => ?_) (fun b u e => ?_) I.bare
  · have e : b = it := by simpa using hb
    subst e
    exact ⟨h1, hL, h2, h3⟩
  · obtain ⟨o, es, ep, ho, r⟩ := hm
    exact ⟨o, es, ep, k _ o (Ne.symm hL) ho, r⟩
  · refine (I.hok b u e).stay (fun c v hc q => k c v ?_ q) (fun _ q => q) fun _ _ q => q
    rcases hc with z | z
    · rw [z]; exact nit b u e
    · exact nit c _ z
theorem Inv.tok (I : Inv X pins σ H s) (t : Nat) : Inv X pins σ H { s with toks := t } := I.un (h' := s.heap) (t' := t) Un.refl I.hok
/-- all objects kept -/
theorem Inv.kept {t' : Nat} (I : Inv X pins σ H s) (k : ∀ b u, s.heap.get? b = some u → h'.get? b = some u) : Inv X pins σ H { s with heap := h', toks := t' } := I.un (Un.kept k) (I.hok.kept k)
/-- a new object laid and tracked -/
theorem Inv.laid {a : Addr} {o : HO} {t' : Nat} (I : Inv X pins σ H s) (k : ∀ b u, s.heap.get? b = some u → h'.get? b = some u) (hp : s.heap.objs.size ≤ a) (new : ObjOk X.prog X.w (upd H a o) h' a o) :
    Inv X pins σ (upd H a o) { s with heap := h', toks := t' } := I.un (Un.laid k hp (I.hok.fresh hp)) (I.hok.laid k hp new)
/-- an object written -/
theorem Inv.write {x e : Addr} {o : HO} {t' : Nat} (I : Inv X pins σ H s) (mu : Mut (H x)) (he : e = x ∨ H e = some (.own x)) (k : ∀ b u, b ≠ e → s.heap.get? b = some u → h'.get? b = some u) (heo : ∃ u, h'.get? e = some u)
    (new : ObjOk X.prog X.w (upd H x o) h' x o) : Inv X pins σ (upd H x o) { s with heap := h', toks := t' } := I.un (Un.write mu he k heo) (I.hok.write mu he k heo new)
/-- forgetting slots, pins -/
theorem Inv.weak {σ' : List (Option V)} (I : Inv X pins σ H s) (hl : σ'.length = σ.length) (w : ∀ (i : Nat) v, σ'[i]? = some (some v) → σ[i]? = some (some v)) : Inv X pins σ' H s :=
  ⟨I.ok, I.os, I.bare, I.base, let ⟨m, hn, hl'⟩ := I.loc; ⟨m, hn, fun i x v e1 e2 e3 => hl' i x v e1 (w i v e2) e3⟩, I.cell, I.free, I.freeC, I.pin, I.hok, hl.trans I.len⟩
theorem Inv.pins_of {pins' : List (Addr × Obj)} (I : Inv X pins σ H s) (h : ∀ p ∈ pins', s.heap.get? p.1 = some p.2 ∧ H p.1 = none ∧ p.1 ≠ X.env.locals ∧ p.1 ∉ X.fs ∧ ∀ v, p.2.data ≠ .cell v) : Inv X pins' σ H s :=
  ⟨I.ok, I.os, I.bare, I.base, I.loc, I.cell, I.free, I.freeC, fun p hp => (List.mem_append.mp hp).elim (fun z => I.pin p (List.mem_append_left _ z)) (h p), I.hok, I.len⟩
theorem nodup_ix {N : List Str} (hN : N.Nodup) {i j : Nat} {x : Str} (a : N[i]? = some x) (b : N[j]? = some x) : i = j := by
  obtain ⟨h1, e1⟩ := List.getElem?_eq_some_iff.mp a
  obtain ⟨h2, e2⟩ := List.getElem?_eq_some_iff.mp b
  exact (List.getElem_inj hN).mp (e1.trans e2.symm)
/-- a name is stored; what changed -/
theorem store_ok2 {M : Model} {A : Around} {E : Value → Shared → Prop} {i : Nat} {x : Str} {v : V} {u : Value} {Q : Unit → Shared → Prop} (I : Inv X pins σ H s) (hN : X.N.Nodup) (hi : X.N[i]? = some x) (hx : Loc X.env.scope x) (r : RelV v u)
    (h : ∀ s', Inv X pins (σ.set i (some v)) H s' → (∃ a, Heap.SameBut a s.heap s'.heap ∧ (a = X.env.locals ∨ X.env.cells.lookup x = some a)) → Q () s') (hf : X.fn x = true ∨ X.env.scope.names.lookup x = some .local := by first | exact .inl rfl | exact .inr rfl | assumption) : wpAny M A (storeName X.env x u) Q E s := by
  obtain ⟨m, hn, hl⟩ := id I.loc
  have hcls : (X.env.scope.kind == .class || (X.env.scope.kind == .module && X.env.locals != X.env.globals)) = false := by rw [I.ok.kind]; rfl
  have hiσ : i < σ.length := by rw [I.len]; exact (List.getElem?_eq_some_iff.mp hi).1
  have cne := I.cne
  have tracked : ∀ {a : Addr} {h' : Heap}, (∃ o, s.heap.get? a = some o ∧ H a = none) → Heap.SameBut a s.heap h' → HOk X.prog X.w H h' := fun {a h'} ha hs b ob e => by
    obtain ⟨_, _, hfree⟩ := ha
    refine (I.hok b ob e).stay (fun c w' hc q => (hs.2 c ?_).trans q) (fun _ q => q) fun _ _ q => q
    rintro rfl
    rcases hc with rfl | hc
    · rw [hfree] at e; cases e
    · rw [hfree] at hc; cases hc
  rcases hx with hk | hk
  · refine wpAny_storeName_local hk hn (fun h' hn' hs => ?_) hcls
    obtain ⟨oL, _, _, hoL, _⟩ := id hn
    refine h _ ⟨I.ok, I.os, I.bare, ⟨fun b o e n hb hx => ?_, fun b o e n hb hx => ?_, I.base.free, fun b o e hx => ?_, I.base.tups, I.base.frzs, I.base.tbls⟩, ⟨_, hn', fun j y v' e1 e2 e3 => ?_⟩, fun y c e => ?_, I.free, I.freeC, fun p hp => ?_, tracked ⟨oL, hoL, I.free⟩ hs, by simpa using I.len⟩ ⟨_, hs, .inl rfl⟩
    · exact (hs.2 b (Nat.ne_of_lt (Nat.lt_of_lt_of_le (Heap.lt_size e) I.ok.above))).trans (I.base.keep b o e n hb hx)
    · obtain ⟨sl, e1⟩ := I.base.slot b o e n hb hx
      exact ⟨sl, (hs.2 b (Nat.ne_of_lt (Nat.lt_of_lt_of_le (Heap.lt_size e) I.ok.above))).trans e1⟩
    · obtain ⟨o', e1⟩ := I.base.there b o e hx
      exact ⟨o', (hs.2 b (Nat.ne_of_lt (Nat.lt_of_lt_of_le (Heap.lt_size e) I.ok.above))).trans e1⟩
    · by_cases hj : j = i
      · subst hj
        rw [hi] at e1; cases e1
        rw [List.getElem?_set_self hiσ] at e2
        cases e2
        exact ⟨u, r, .inl ⟨hk, by simp⟩⟩
      · rw [List.getElem?_set_ne (Ne.symm hj)] at e2
        obtain ⟨u', r', q⟩ := hl j y v' e1 e2 e3
        refine ⟨u', r', ?_⟩
        rcases q with ⟨k, e⟩ | ⟨k, c, e, z⟩
        · refine .inl ⟨k, ?_⟩
          have : y ≠ x := fun e => hj (nodup_ix hN e1 (e ▸ hi))
          simp [this, e]
        · exact .inr ⟨k, c, e, z.sameBut hs (cne y c e)⟩
    · obtain ⟨w', z⟩ := I.cell y c e
      exact ⟨w', z.sameBut hs (cne y c e)⟩
    · obtain ⟨e, n, ne, nf, d⟩ := I.pin p hp
      exact ⟨(hs.2 p.1 ne).trans e, n, ne, nf, d⟩
  · have hfn : X.fn x = true := by
      rcases hf with z | z
      · exact z
      · rw [z] at hk; cases hk
    obtain ⟨c, hc⟩ := I.ok.has x (.inl hk)
    obtain ⟨w', z⟩ := I.cell x c hc
    refine wpAny_storeName_cell I.ok.kind hk hc z (fun h' hc' hs => ?_)
    obtain ⟨oc, hoc, hocd⟩ := id z
    refine h { s with heap := h' } ⟨I.ok, I.os, I.bare, ⟨fun b o e n hb hx => ?_, fun b o e n hb hx => ?_, I.base.free, fun b o e hx => ?_, I.base.tups, I.base.frzs, I.base.tbls⟩, ⟨m, hn.sameBut hs (Ne.symm (cne x c hc)), fun j y v' e1 e2 e3 => ?_⟩, fun y c' e => ?_, I.free, I.freeC, fun p hp => ?_, tracked ⟨oc, hoc, I.freeC x c hc⟩ hs, by simpa using I.len⟩ ⟨c, hs, .inr hc⟩
    · exact (hs.2 b (Nat.ne_of_lt (Nat.lt_of_lt_of_le (Heap.lt_size e) (I.ok.cab x c hfn hc)))).trans (I.base.keep b o e n hb hx)
    · obtain ⟨sl, e1⟩ := I.base.slot b o e n hb hx
      exact ⟨sl, (hs.2 b (Nat.ne_of_lt (Nat.lt_of_lt_of_le (Heap.lt_size e) (I.ok.cab x c hfn hc)))).trans e1⟩
    · obtain ⟨o', e1⟩ := I.base.there b o e hx
      exact ⟨o', (hs.2 b (Nat.ne_of_lt (Nat.lt_of_lt_of_le (Heap.lt_size e) (I.ok.cab x c hfn hc)))).trans e1⟩
    · by_cases hj : j = i
      · subst hj
        rw [hi] at e1; cases e1
        rw [List.getElem?_set_self hiσ] at e2
        cases e2
        exact ⟨u, r, .inr ⟨.inl hk, c, hc, hc'⟩⟩
      · rw [List.getElem?_set_ne (Ne.symm hj)] at e2
        obtain ⟨u', r', q⟩ := hl j y v' e1 e2 e3
        refine ⟨u', r', ?_⟩
        rcases q with q | ⟨k, c', e, z'⟩
        · exact .inl q
        · refine .inr ⟨k, c', e, z'.sameBut hs ?_⟩
          rintro rfl
          exact hj (nodup_ix hN e1 (I.ok.inj _ _ _ e hc ▸ hi))
    · by_cases hcc : c' = c
      · subst hcc; exact ⟨_, hc'⟩
      · obtain ⟨w2, z2⟩ := I.cell y c' e
        exact ⟨w2, z2.sameBut hs hcc⟩
    · obtain ⟨e, n, ne, nf, d⟩ := I.pin p hp
      refine ⟨(hs.2 p.1 ?_).trans e, n, ne, nf, d⟩
      intro q
      rw [q, hoc] at e
      have q' : oc = p.2 := Option.some.inj e
      exact d w' (by rw [← q']; exact hocd)
theorem store_ok {M : Model} {A : Around} {E : Value → Shared → Prop} {i : Nat} {x : Str} {v : V} {u : Value} {Q : Unit → Shared → Prop} (I : Inv X pins σ H s) (hN : X.N.Nodup) (hi : X.N[i]? = some x) (hx : Loc X.env.scope x) (r : RelV v u)
    (h : ∀ s', Inv X pins (σ.set i (some v)) H s' → Q () s') (hf : X.fn x = true ∨ X.env.scope.names.lookup x = some .local := by first | exact .inl rfl | exact .inr rfl | assumption) : wpAny M A (storeName X.env x u) Q E s :=
  store_ok2 I hN hi hx r (fun s' I' _ => h s' I') hf
/-- behind a call or a block, the state as it is -/
theorem Inv.call' {s' : Shared} {ch : List Addr} (I : Inv X pins σ H s) (ho : s'.os = s.os) (u : Un (frs X.stack) ch H H' s.heap s'.heap) (hok : HOk X.prog X.w H' s'.heap) (hg : AllBare s'.gens)
    (hch : ∀ b ∈ ch, (b ∈ X.ex ∨ X.s_0.heap.objs.size ≤ b) ∧ b ≠ X.env.locals ∧ (∀ x c, X.env.cells.lookup x = some c → c ≠ b) ∧ ∀ p ∈ X.pn ++ pins, p.1 ≠ b) : Inv X pins σ H' s' := by
  obtain ⟨h', g', d', t', o'⟩ := s'
  have e : o' = s.os := ho
  subst e
  exact I.call (g' := g') (t' := t') (d' := d') u hok hg hch
end
/-! ### the judgements -/
/-- an exception: its class, its own dict's address (where it has one), the abstract heap behind it -/
abbrev XK := Value → Option Addr → Hp → Prop
abbrev St := List (Option V)
abbrev VK := V → Hp → Prop
/-- an expression's reading; a test's; an argument list's -/
abbrev TE := St → Hp → VK → Prop
abbrev TT := St → Hp → (Bool → Hp → Prop) → Prop
abbrev TA := St → Hp → (List V → Hp → Prop) → Prop
/-- what is wanted behind a statement -/
structure Ends where
  nx : St → Hp → Prop
  rt : VK
  bk : St → Hp → Prop := fun _ _ => False
  ct : St → Hp → Prop := fun _ _ => False
abbrev TS := Ends → St → Hp → Prop
def EP (X : Cx) (pins : List (Addr × Obj)) (σ : St) (Q : VK) (u : Value) (s' : Shared) : Prop := ∃ v H', Inv X pins σ H' s' ∧ RelV v u ∧ Q v H'
def TP (X : Cx) (pins : List (Addr × Obj)) (σ : St) (Q : Bool → Hp → Prop) (b : Bool) (s' : Shared) : Prop := ∃ H', Inv X pins σ H' s' ∧ Q b H'
def AP (X : Cx) (pins : List (Addr × Obj)) (σ : St) (Q : List V → Hp → Prop) (us : List Value) (s' : Shared) : Prop := ∃ vs H', Inv X pins σ H' s' ∧ Vals vs us ∧ Q vs H'
def SP (X : Cx) (pins : List (Addr × Obj)) (D : Ends) (f : Flow) (s' : Shared) : Prop :=
  match f with
  | .next => ∃ σ' H', Inv X pins σ' H' s' ∧ D.nx σ' H'
  | .brk => ∃ σ' H', Inv X pins σ' H' s' ∧ D.bk σ' H'
  | .cont => ∃ σ' H', Inv X pins σ' H' s' ∧ D.ct σ' H'
  | .ret u => ∃ v σ' H', Inv X pins σ' H' s' ∧ RelV v u ∧ D.rt v H'
def PE (X : Cx) (e : Expr) (t : TE) : Prop :=
  ∀ (pins : List (Addr × Obj)) (s : Shared) (σ : St) (H : Hp) (Q : VK), Inv X pins σ H s → t σ H Q → wpAny (model X.prog X.w) X.A (eval e X.env) (EP X pins σ Q) X.xe s
def PT (X : Cx) (e : Expr) (t : TT) : Prop :=
  ∀ (pins : List (Addr × Obj)) (s : Shared) (σ : St) (H : Hp) (Q : Bool → Hp → Prop), Inv X pins σ H s → t σ H Q → wpAny (model X.prog X.w) X.A (isTrue e X.env (eval e X.env)) (TP X pins σ Q) X.xe s
/-- a test whatever its 'whole' is (and, or) -/
def PW (X : Cx) (e : Expr) (t : TT) : Prop :=
  ∀ (whole : Sem Value) (pins : List (Addr × Obj)) (s : Shared) (σ : St) (H : Hp) (Q : Bool → Hp → Prop), Inv X pins σ H s → t σ H Q → wpAny (model X.prog X.w) X.A (isTrue e X.env whole) (TP X pins σ Q) X.xe s
theorem PW.pt {X : Cx} {e : Expr} {t : TT} (h : PW X e t) : PT X e t := h _
/-- an argument list (no star), from the left -/
def PA (X : Cx) (es : List Expr) (t : TA) : Prop :=
  ∀ (pos : Pos) (pins : List (Addr × Obj)) (s : Shared) (σ : St) (H : Hp) (Q : List V → Hp → Prop), Inv X pins σ H s → t σ H Q → wpAny (model X.prog X.w) X.A (spliced (backTo pos (starEach es X.env))) (AP X pins σ Q) X.xe s
def PS (X : Cx) (st : Stmt) (t : TS) : Prop :=
  ∀ (pins : List (Addr × Obj)) (s : Shared) (σ : St) (H : Hp) (D : Ends), Inv X pins σ H s → t D σ H → wpAny (model X.prog X.w) X.A (exec st X.env) (SP X pins D) X.xe s
def PSs (X : Cx) (st : List Stmt) (t : TS) : Prop :=
  ∀ (pins : List (Addr × Obj)) (s : Shared) (σ : St) (H : Hp) (D : Ends), Inv X pins σ H s → t D σ H → wpAny (model X.prog X.w) X.A (execs st X.env) (SP X pins D) X.xe s
/-- weaken the end -/
theorem thn {α : Type} {t : Sem α} {Q Q' : α → Shared → Prop} {M : Model} {A : Around} {E : Value → Shared → Prop} {s : Shared} (h : wpAny M A t Q E s) (hQ : ∀ a s, Q a s → Q' a s) : wpAny M A t Q' E s := wpAny_mono h hQ fun _ _ x => x
end L2
namespace L2
open PySem PySem.Spec PyProof.Rows
section
variable {X : Cx}
/-- two expressions in a row -/
theorem bin {a b : Expr} {ta tb : TE} (ha : PE X a ta) (hb : PE X b tb) {pins : List (Addr × Obj)} {s : Shared} {σ : St} {H : Hp} {R : V → V → Hp → Prop} (I : Inv X pins σ H s) (h : ta σ H fun x H1 => tb σ H1 fun y H2 => R x y H2)
    {α : Type} {Q : α → Shared → Prop} {f : Value → Value → Sem α}
    (hf : ∀ v u s2 x y H2, Inv X pins σ H2 s2 → RelV x v → RelV y u → R x y H2 → wpAny (model X.prog X.w) X.A (f v u) Q X.xe s2) :
    wpAny (model X.prog X.w) X.A (eval a X.env) (fun v s₁ => wpAny (model X.prog X.w) X.A (eval b X.env) (fun u s₂ => wpAny (model X.prog X.w) X.A (f v u) Q X.xe s₂) X.xe s₁) X.xe s := by
  refine thn (ha pins s σ H _ I h) fun v s1 ⟨x, H1, I1, r1, q1⟩ => ?_
  refine thn (hb pins s1 σ H1 _ I1 q1) fun u s2 ⟨y, H2, I2, r2, q2⟩ => ?_
  exact hf v u s2 x y H2 I2 r1 r2 q2
/-! ### names and constants -/
def tVar (i : Nat) : TE := fun σ H Q => ∃ v, σ[i]? = some (some v) ∧ Q v H
def tC (v : V) : TE := fun _ H Q => Q v H
theorem pe_var {i : Nat} {x : Str} {pos : Pos} (hN : X.N[i]? = some x) (hv : Vis X.env.scope x) (hd : (x == ("__debug__" : Str)) = false := by decide) (hcd : (x == ("__classdict__" : Str)) = false := by decide) : PE X (.Name x pos) (tVar i) := by
  intro pins s σ H Q I h
  obtain ⟨v, e, h⟩ := h
  obtain ⟨m, hn, hl⟩ := I.loc
  obtain ⟨u, r, l⟩ := hl i x v hN e hv
  have fin : EP X pins σ Q u s := ⟨v, H, I, r, h⟩
  rcases l with ⟨hk, hm⟩ | ⟨hk, c, hc, hcell⟩
  · exact wpAny_Name (wpAny_loadName_local I.ok.kind hk hn hm fin) hd
  · rcases hk with hk | hk
    · exact wpAny_Name (wpAny_loadName_cell I.ok.kind hk hc hcell fin) hd
    · exact wpAny_Name (wpAny_loadName_free I.ok.kind hk hc hcell fin hcd) hd
theorem pe_int {i j pos} : PE X (.Constant (.int i) j pos) (tC (.int i)) := fun _ _ _ H _ I h => wpAny_Constant_int ⟨.int i, H, I.tok _, ⟨_, rfl⟩, h⟩
theorem pe_bl {b j pos} : PE X (.Constant (.bool b) j pos) (tC (.bl b)) := fun _ _ _ H _ I h => Constant_bool ⟨.bl b, H, I, rfl, h⟩
/-- a global name of the def -/
def Gl (X : Cx) (x : Str) : Prop := X.env.kindOf x = some .globalImplicit
theorem ld_glob {E : Value → Shared → Prop} {pins : List (Addr × Obj)} {s : Shared} {σ : St} {H : Hp} {x : Str} {u : Value} {pos : Pos} {Q : Value → Shared → Prop} (I : Inv X pins σ H s) (hg : Gl X x) (hm : X.mg x = some u) (h : Q u s)
    (hd : (x == ("__debug__" : Str)) = false := by decide) : wpAny (model X.prog X.w) X.A (eval (.Name x pos) X.env) Q E s :=
  Calls.Name_function_global I.ok.kind hg (Calls.loadGlobal_global (by rw [I.ok.glob]; exact I.mod.glob.keeps I.bk) hm h) hd
theorem ld_blt {E : Value → Shared → Prop} {pins : List (Addr × Obj)} {s : Shared} {σ : St} {H : Hp} {x : Str} {u : Value} {pos : Pos} {Q : Value → Shared → Prop} (I : Inv X pins σ H s) (hg : Gl X x) (hm : X.mg x = none) (hv : bootBuiltins x = some u) (h : Q u s)
    (hn : x ≠ "__name__" := by decide) (hd : (x == ("__debug__" : Str)) = false := by decide) : wpAny (model X.prog X.w) X.A (eval (.Name x pos) X.env) Q E s := by
  obtain ⟨mb, h1, h2⟩ := I.mod.blt
  exact Calls.Name_function_global I.ok.kind hg (Calls.loadGlobal_builtin (by rw [I.ok.glob]; exact I.mod.glob.keeps I.bk) hm (by rw [I.ok.blt]; exact h1.keeps I.bk) ((h2 x hn).trans hv) h) hd
/-- a module's constant, a class, a function, as a value -/
theorem pe_glob {x : Str} {v : V} {u : Value} {pos : Pos} (hg : Gl X x) (hm : X.mg x = some u) (r : RelV v u) (hd : (x == ("__debug__" : Str)) = false := by decide) : PE X (.Name x pos) (tC v) :=
  fun _ _ _ H _ I h => ld_glob I hg hm ⟨v, H, I, r, h⟩ hd
/-! ### arithmetic -/
variable {a b : Expr} {ta tb : TE} {pos : Pos}
/-! ### comparisons -/
def PC (X : Cx) (op : CmpOp) (a b : Expr) (t : TE) : Prop :=
  ∀ (pins : List (Addr × Obj)) (s : Shared) (σ : St) (H : Hp) (Q : VK), Inv X pins σ H s → t σ H Q →
    wpAny (model X.prog X.w) X.A (eval a X.env) (fun v s₁ => wpAny (model X.prog X.w) X.A (eval b X.env) (fun u s₂ => wpAny (model X.prog X.w) X.A (compareOp op v u) (EP X pins σ Q) X.xe s₂) X.xe s₁) X.xe s
theorem nobehind (b : Expr) {op : CmpOp} (h : op ≠ .In) (h2 : op ≠ .NotIn) : behindInMarks op b = false := by
  have e1 : (op == CmpOp.In) = false := by cases op <;> first | rfl | exact absurd rfl h
  have e2 : (op == CmpOp.NotIn) = false := by cases op <;> first | rfl | exact absurd rfl h2
  cases b <;> simp [behindInMarks, e1, e2]
/-- a comparison as a value, as a test -/
def tB (t : TE) : TT := fun σ H Q => t σ H fun x H1 => ∃ c, x = .bl c ∧ Q c H1
theorem pt_cmp {op : CmpOp} {t : TE} (h : PC X op a b t) (h1 : behindInMarks op b = false := by first | exact nobehind _ (by decide) (by decide) | rfl) : PT X (.Compare a [op] [b] pos) (tB t) := by
  intro pins s σ H Q I hw
  refine wpAny_isTrue_Compare1 (thn (h pins s σ H _ I hw) fun v s1 h1 => thn h1 fun u s2 h2 => thn h2 fun c s3 ⟨x, H1, I1, r1, q1⟩ => ?_) h1
  obtain ⟨d, rfl, q⟩ := q1
  cases r1
  exact wpAny_truthy_bool ⟨H1, I1, q⟩
/-- an expression whose value is a bool, as a test -/
theorem pt_val {e : Expr} {t : TE} (h : PE X e t) (he : ∀ whole, isTrue e X.env whole = (do let v ← whole; standAt e.pos; holding [v] (truthy v)) := by intro _; rfl) : PT X e (tB t) := by
  intro pins s σ H Q I hw
  refine isTrue_plain (thn (h pins s σ H _ I hw) fun v s1 ⟨x, H1, I1, r1, q1⟩ => ?_) (he _)
  obtain ⟨d, rfl, q⟩ := q1
  cases r1
  exact wpAny_truthy_bool ⟨H1, I1, q⟩
/-! ### and, or, not -/
variable {tA tB' : TT} {rest : List Expr}
def tAnd (t u : TT) : TT := fun σ H Q => t σ H fun c H1 => if c = true then u σ H1 Q else Q false H1
def tOr (t u : TT) : TT := fun σ H Q => t σ H fun c H1 => if c = true then Q true H1 else u σ H1 Q
def tNot (t : TT) : TT := fun σ H Q => t σ H fun c H1 => Q (!c) H1
theorem pw_and1 (ha : PT X a tA) : PW X (.BoolOp .And [a] pos) tA := by
  intro wh pins s σ H Q I h
  refine isTrue_and (thn (ha pins s σ H Q I h) fun c s1 e => ?_)
  cases c with
  | true => exact isTrue_and_nil e
  | false => exact e
theorem pw_or1 (ha : PT X a tA) : PW X (.BoolOp .Or [a] pos) tA := by
  intro wh pins s σ H Q I h
  refine isTrue_or (thn (ha pins s σ H Q I h) fun c s1 e => ?_)
  cases c with
  | false => exact isTrue_or_nil e
  | true => exact e
theorem pw_and (ha : PT X a tA) (hb : PW X (.BoolOp .And (b :: rest) pos) tB') : PW X (.BoolOp .And (a :: b :: rest) pos) (tAnd tA tB') := by
  intro wh pins s σ H Q I h
  refine isTrue_and (thn (ha pins s σ H _ I h) fun c s1 ⟨H1, I1, q1⟩ => ?_)
  cases c with
  | true => exact hb wh pins s1 σ H1 Q I1 q1
  | false => exact ⟨H1, I1, q1⟩
theorem pw_or (ha : PT X a tA) (hb : PW X (.BoolOp .Or (b :: rest) pos) tB') : PW X (.BoolOp .Or (a :: b :: rest) pos) (tOr tA tB') := by
  intro wh pins s σ H Q I h
  refine isTrue_or (thn (ha pins s σ H _ I h) fun c s1 ⟨H1, I1, q1⟩ => ?_)
  cases c with
  | true => exact ⟨H1, I1, q1⟩
  | false => exact hb wh pins s1 σ H1 Q I1 q1
theorem pt_not (ha : PT X a tA) : PT X (.UnaryOp .Not a pos) (tNot tA) := by
  intro pins s σ H Q I h
  exact isTrue_not (ha pins s σ H (fun c H1 => Q (!c) H1) I h)
end
end L2
namespace L2
open PySem PySem.Spec PyProof.Rows
/-! ### a list, a tuple that is read: tracked, frozen, or an object of the module -/
def SqL (K : PySem.W.Frag) (H : Hp) (a : Addr) (xs : List V) : Prop :=
  Rd H a (.lst xs) ∨
    ∃ (o : Obj) (its : Array Value) (n : Nat), K.lookup a = some o ∧ o.cls = .type "list" ∧ o.dict = none ∧ o.data = .seq its n ∧ its.size ≤ sizeLine ∧ Vals xs its.toList
def SqT (K : PySem.W.Frag) (H : Hp) (a : Addr) (xs : List V) : Prop :=
  Rd H a (.tup xs) ∨
    ∃ (o : Obj) (its : Array Value) (n : Nat), K.lookup a = some o ∧ o.cls = .type "tuple" ∧ o.data = .seq its n ∧ its.size ≤ sizeLine ∧ Vals xs its.toList
def absV : Value → Option V
  | .none => some .non
  | .bool b => some (.bl b)
  | .int i _ => some (.int i)
  | .str x _ => some (.str x)
  | .bytes b _ => some (.byt b)
  | .float b _ => some (.flt b)
  | .ref a => some (.ref a)
  | .type n => some (.ty n)
  | _ => none
theorem RelV.abs {x : V} {u : Value} (r : RelV x u) : absV u = some x := by
  cases x with
  | non => cases r; rfl
  | bl _ => cases r; rfl
  | int _ => obtain ⟨t, rfl⟩ := r; rfl
  | str _ => obtain ⟨t, rfl⟩ := r; rfl
  | byt _ => obtain ⟨t, rfl⟩ := r; rfl
  | flt _ => obtain ⟨t, rfl⟩ := r; rfl
  | ref _ => cases r; rfl
  | ty _ => cases r; rfl
theorem RelV.inj {x y : V} {u : Value} (r : RelV x u) (q : RelV y u) : x = y := Option.some.inj (r.abs.symm.trans q.abs)
theorem Vals.inj : ∀ {xs ys : List V} {us : List Value}, Vals xs us → Vals ys us → xs = ys
  | _, _, _, .nil, .nil => rfl
  | _, _, _, .cons r t, .cons r' t' => by rw [r.inj r', Vals.inj t t']
section
variable {X : Cx} {pins : List (Addr × Obj)} {σ : St} {H : Hp} {s : Shared} {a : Addr} {xs ys : List V}
theorem SqL.of {K : PySem.W.Frag} (h : H a = some (.lst xs)) : SqL K H a xs := .inl (.inl h)
theorem SqT.of {K : PySem.W.Frag} (h : H a = some (.tup xs)) : SqT K H a xs := .inl (.inl h)
theorem Inv.list (I : Inv X pins σ H s) (h : SqL X.K H a xs) : ∃ its : List Value, Vals xs its ∧ PlainL s.heap a its.toArray ∧ xs.length ≤ sizeLine := by
  rcases h with h | ⟨o, its, n, hk, hc, hd, hs, hz, r⟩
  · obtain ⟨z, its, n, r, e⟩ := h.ok I.hok
    exact ⟨its, r, ⟨_, n, e, rfl, rfl, rfl⟩, z⟩
  · refine ⟨its.toList, r, ⟨o, n, I.kIn a o hk, hc, hd, by simpa using hs⟩, ?_⟩
    have e := r.length
    simp only [Array.length_toList] at e
    omega
theorem Inv.tuple (I : Inv X pins σ H s) (h : SqT X.K H a xs) : ∃ its : List Value, Vals xs its ∧ IsTup s.heap a its.toArray ∧ xs.length ≤ sizeLine := by
  rcases h with h | ⟨o, its, n, hk, hc, hs, hz, r⟩
  · obtain ⟨z, its, r, p⟩ := h.ok I.hok
    exact ⟨its, r, p, z⟩
  · refine ⟨its.toList, r, ⟨o, I.kIn a o hk, hc, n, by simpa using hs⟩, ?_⟩
    have e := r.length
    simp only [Array.length_toList] at e
    omega
theorem Inv.list_inj (I : Inv X pins σ H s) (h : SqL X.K H a xs) (h' : SqL X.K H a ys) : xs = ys := by
  obtain ⟨its, r, ⟨o, n, e, _, _, d⟩, _⟩ := I.list h
  obtain ⟨its', r', ⟨o', n', e', _, _, d'⟩, _⟩ := I.list h'
  rw [e] at e'; cases e'
  rw [d] at d'
  injection d' with d1 _
  have : its = its' := by simpa using congrArg Array.toList d1
  subst this
  exact r.inj r'
end
/-! ### another wish about exceptions -/
abbrev Cx.wish (X : Cx) (E : Value → Shared → Prop) : Cx := { X with xe := E }
/-- no exception leaves -/
abbrev Cx.nox (X : Cx) : Cx := X.wish fun _ _ => False
theorem Cx.Ok.wish {X : Cx} (ok : X.Ok) (E : Value → Shared → Prop) : (X.wish E).Ok :=
  ⟨ok.mod, ok.kind, ok.glob, ok.blt, ok.above, ok.inj, ok.has, ok.cab, ok.hd, ok.frames, ok.stk, ok.exf, ok.bs, ok.bsz, ok.noex, ok.exfs, ok.funs, ok.frf⟩
theorem Cx.Ok.unwish {X : Cx} {E : Value → Shared → Prop} (ok : (X.wish E).Ok) : X.Ok :=
  ⟨ok.mod, ok.kind, ok.glob, ok.blt, ok.above, ok.inj, ok.has, ok.cab, ok.hd, ok.frames, ok.stk, ok.exf, ok.bs, ok.bsz, ok.noex, ok.exfs, ok.funs, ok.frf⟩
section
variable {X : Cx} {pins : List (Addr × Obj)} {σ : St} {H : Hp} {s : Shared} {E : Value → Shared → Prop}
theorem Inv.wish (I : Inv X pins σ H s) (E : Value → Shared → Prop) : Inv (X.wish E) pins σ H s := ⟨I.ok.wish E, I.os, I.bare, I.base, I.loc, I.cell, I.free, I.freeC, I.pin, I.hok, I.len⟩
theorem Inv.unwish (I : Inv (X.wish E) pins σ H s) : Inv X pins σ H s := ⟨I.ok.unwish, I.os, I.bare, I.base, I.loc, I.cell, I.free, I.freeC, I.pin, I.hok, I.len⟩
theorem SP.unwish {D : Ends} {f : Flow} {s' : Shared} (h : SP (X.wish E) pins D f s') : SP X pins D f s' := by
  cases f with
  | next => obtain ⟨σ', H', I, q⟩ := h; exact ⟨σ', H', I.unwish, q⟩
  | brk => obtain ⟨σ', H', I, q⟩ := h; exact ⟨σ', H', I.unwish, q⟩
  | cont => obtain ⟨σ', H', I, q⟩ := h; exact ⟨σ', H', I.unwish, q⟩
  | ret u => obtain ⟨v, σ', H', I, r, q⟩ := h; exact ⟨v, σ', H', I.unwish, r, q⟩
theorem PE.nox {e : Expr} {t : TE} (h : PE X.nox e t) : PE X e t := fun pins s σ H Q I hw =>
  wpAny_mono (h pins s σ H Q (I.wish _) hw) (fun _ _ ⟨v, H', I', r, q⟩ => ⟨v, H', I'.unwish, r, q⟩) fun _ _ z => False.elim z
theorem PT.nox {e : Expr} {t : TT} (h : PT X.nox e t) : PT X e t := fun pins s σ H Q I hw =>
  wpAny_mono (h pins s σ H Q (I.wish _) hw) (fun _ _ ⟨H', I', q⟩ => ⟨H', I'.unwish, q⟩) fun _ _ z => False.elim z
theorem PSs.nox {st : List Stmt} {t : TS} (h : PSs X.nox st t) : PSs X st t := fun pins s σ H D I hw =>
  wpAny_mono (h pins s σ H D (I.wish _) hw) (fun _ _ q => q.unwish) fun _ _ z => False.elim z
end
/-! ### blocks and small statements -/
section
variable {X : Cx} {st : Stmt} {rest : List Stmt} {t u : TS} {e : Expr} {te : TE} {pos : Pos}
def tNext : TS := fun D σ H => D.nx σ H
def tSeq (t u : TS) : TS := fun D σ H => t { D with nx := u D } σ H
theorem pss_nil : PSs X [] tNext := fun _ _ σ H _ I h => wpAny_execs_nil ⟨σ, H, I, h⟩
theorem pss_cons (h1 : PS X st t) (h2 : PSs X rest u) : PSs X (st :: rest) (tSeq t u) := by
  intro pins s σ H D I h
  refine wpAny_execs_cons (thn (h1 pins s σ H { D with nx := u D } I h) fun f s1 q => ?_)
  cases f with
  | next =>
    obtain ⟨σ', H', I', q⟩ := q
    exact h2 pins s1 σ' H' D I' q
  | ret v => exact q
  | brk => exact q
  | cont => exact q
theorem pss_one (h1 : PS X st t) : PSs X [st] t := by
  intro pins s σ H D I h
  refine wpAny_execs_cons (thn (h1 pins s σ H D I h) fun f s1 q => ?_)
  cases f with
  | next => exact wpAny_execs_nil q
  | ret v => exact q
  | brk => exact q
  | cont => exact q
def tBreak : TS := fun D σ H => D.bk σ H
theorem ps_break : PS X (.Break pos) tBreak := fun _ _ σ H _ I h => wpAny_Break ⟨σ, H, I, h⟩
/-- in a def's body nothing is shown -/
theorem Inv.quiet {pins : List (Addr × Obj)} {σ : St} {H : Hp} {s : Shared} (I : Inv X pins σ H s) : interactive X.env = false := by simp [interactive, I.ok.kind]
/-- an expression whose value is dropped -/
def tDrop (te : TE) : TS := fun D σ H => te σ H fun _ H1 => D.nx σ H1
theorem ps_expr (he : PE X e te) (hs : swapsWith e none pos.line X.env = pure false := by rfl) : PS X (.Expr e pos) (tDrop te) := by
  intro pins s σ H D I h
  exact wpAny_Expr_any (thn (he pins s σ H _ I h) fun v s1 ⟨x, H1, I1, r1, q1⟩ => ⟨σ, H1, I1, q1⟩) I.quiet hs
def tRet (te : TE) : TS := fun D σ H => te σ H D.rt
theorem ps_ret (he : PE X e te) : PS X (.Return (some e) pos) (tRet te) := by
  intro pins s σ H D I h
  exact wpAny_Return_some (thn (he pins s σ H _ I h) fun v s1 ⟨x, H1, I1, r1, q1⟩ => ⟨x, σ, H1, I1, r1, q1⟩)
def tIfS (c : TT) (t u : TS) : TS := fun D σ H => c σ H fun b H1 => if b = true then t D σ H1 else u D σ H1
theorem ps_if {c : Expr} {a b : List Stmt} {tc : TT} (hc : PT X c tc) (ha : PSs X a t) (hb : PSs X b u) : PS X (.If c a b pos) (tIfS tc t u) := by
  intro pins s σ H D I h
  refine wpAny_If (thn (hc pins s σ H _ I h) fun d s1 ⟨H1, I1, q1⟩ => ?_)
  cases d with
  | true => exact ha pins s1 σ H1 D I1 q1
  | false => exact hb pins s1 σ H1 D I1 q1
end
/-! ### targets -/
abbrev TG := V → St → Hp → (St → Hp → Prop) → Prop
abbrev TGs := List V → St → Hp → (St → Hp → Prop) → Prop
def PG (X : Cx) (target : Expr) (t : TG) : Prop :=
  ∀ (pins : List (Addr × Obj)) (s : Shared) (σ : St) (H : Hp) (v : V) (u : Value) (Q : St → Hp → Prop), Inv X pins σ H s → RelV v u → t v σ H Q →
    wpAny (model X.prog X.w) X.A (assign target X.env u) (fun _ s' => ∃ σ' H', Inv X pins σ' H' s' ∧ Q σ' H') X.xe s
/-- several targets, one after another -/
def PGs (X : Cx) (ts : List Expr) (t : TGs) : Prop :=
  ∀ (pins : List (Addr × Obj)) (s : Shared) (σ : St) (H : Hp) (vs : List V) (us : List Value) (Q : St → Hp → Prop), Inv X pins σ H s → Vals vs us → t vs σ H Q →
    wpAny (model X.prog X.w) X.A (assignInOrder ((assignEach ts X.env).map (·.2)) us) (fun _ s' => ∃ σ' H', Inv X pins σ' H' s' ∧ Q σ' H') X.xe s
section
variable {X : Cx} {pos : Pos}
def gName (i : Nat) : TG := fun v σ H Q => Q (σ.set i (some v)) H
theorem pg_name {i : Nat} {x : Str} (hN : X.N.Nodup) (hi : X.N[i]? = some x) (hx : Loc X.env.scope x) (hf : X.fn x = true ∨ X.env.scope.names.lookup x = some .local := by first | exact .inl rfl | exact .inr rfl | assumption) : PG X (.Name x pos) (gName i) := by
  intro pins s σ H v u Q I r h
  exact wpAny_assign_Name (store_ok I hN hi hx r (fun s' I' => ⟨_, H, I', h⟩) hf)
def gNil : TGs := fun vs σ H Q => vs = [] ∧ Q σ H
def gCons (t : TG) (u : TGs) : TGs := fun vs σ H Q => ∃ v r, vs = v :: r ∧ t v σ H fun σ' H' => u r σ' H' Q
theorem pgs_nil : PGs X [] gNil := by
  intro pins s σ H vs us Q I r h
  obtain ⟨e, h⟩ := h
  subst e
  cases r
  exact assignInOrder_nil ⟨σ, H, I, h⟩
theorem pgs_cons {e : Expr} {es : List Expr} {t : TG} {u : TGs} (h1 : PG X e t) (h2 : PGs X es u)
    (hs : (assignEach (e :: es) X.env).map (·.2) = assign e X.env :: (assignEach es X.env).map (·.2) := by rfl) : PGs X (e :: es) (gCons t u) := by
  intro pins s σ H vs us Q I r h
  obtain ⟨v, vr, e1, h⟩ := h
  subst e1
  cases r with
  | cons r rr =>
    rw [hs]
    refine assignInOrder_cons (thn (h1 pins s σ H _ _ _ I r h) fun _ s1 ⟨σ1, H1, I1, q1⟩ => ?_)
    exact h2 pins s1 σ1 H1 _ _ Q I1 rr q1
/-- (a, b, ..) = a tuple of that length -/
def gTup (K : PySem.W.Frag) (n : Nat) (t : TGs) : TG := fun v σ H Q => ∃ a xs, v = .ref a ∧ SqT K H a xs ∧ xs.length = n ∧ t xs σ H Q
theorem pg_tup {es : List Expr} {k : Nat} {t : TGs} {n : Nat} (hc : X.calm = true) (h : PGs X es t)
    (hn : (assignEach es X.env).length = n := by rfl) (hst : (assignEach es X.env).findIdx? (·.1) = none := by rfl) : PG X (.Tuple es k pos) (gTup X.K n t) := by
  intro pins s σ H v u Q I r hw
  obtain ⟨a, xs, e1, hq, hl, hw⟩ := hw
  subst e1
  cases r
  obtain ⟨its, rv, ht, hz⟩ := I.tuple hq
  refine assign_Tuple_tuple (I.ok.hd hc) ht (by simp [hn, ← hl, rv.length]) hst fun h' hx => ?_
  have I1 : Inv X pins σ H { s with heap := h' } := I.kept (t' := s.toks) fun b o e => hx b o (Nat.ne_of_lt (Heap.lt_size e)) e
  exact h pins _ σ H xs _ Q I1 (by simpa using rv) hw
/-- target = value -/
def tAsg (te : TE) (g : TG) : TS := fun D σ H => te σ H fun x H1 => g x σ H1 D.nx
/-- name = value -/
theorem ps_set {i : Nat} {x : Str} {e : Expr} {te : TE} {pos' : Pos} (hN : X.N.Nodup) (hi : X.N[i]? = some x) (hx : Loc X.env.scope x) (he : PE X e te) (hs : swapsWith e (some (.Name x pos')) pos.line X.env = pure false := by rfl) (hf : X.fn x = true ∨ X.env.scope.names.lookup x = some .local := by first | exact .inl rfl | exact .inr rfl | assumption) :
    PS X (.Assign [.Name x pos'] e pos) (tAsg te (gName i)) := by
  intro pins s σ H D I h
  refine wpAny_Assign_Name (thn (he pins s σ H _ I h) fun v s1 ⟨y, H1, I1, r1, q1⟩ => ?_) hs
  exact store_ok I1 hN hi hx r1 (fun s2 I2 => ⟨_, H1, I2, q1⟩) hf
end
/-! ### while -/
section
variable {X : Cx} {pos : Pos}
/-- the invariant W with its measure -/
def tWhile (c : TT) (tb : TS) : TS := fun D σ H => ∃ W : Nat → St → Hp → Prop, (∃ m, W m σ H) ∧ ∀ m σ H, W m σ H →
  c σ H fun b H1 => if b = true then ∃ N : St → Hp → Prop, (∀ σ' H', N σ' H' → ∃ m', m' < m ∧ W m' σ' H') ∧ tb { D with nx := N, ct := N, bk := D.nx } σ H1 else D.nx σ H1
theorem ps_while {c : Expr} {body : List Stmt} {tc : TT} {tb : TS} (hp : PassesOwn (model X.prog X.w) X.A X.env X.xe) (hc : PT X c tc) (hb : PSs X body tb) : PS X (.While c body [] pos) (tWhile tc tb) := by
  intro pins s σ H D I h
  obtain ⟨W, ⟨m0, w0⟩, turn⟩ := h
  refine wpAny_While (codeAny_whileLoop (fun n s' => ∃ σ' H', Inv X pins σ' H' s' ∧ W n σ' H') ?_ m0 ⟨σ, H, I, w0⟩)
  rintro n s1 ⟨σ1, H1, I1, w1⟩
  refine wpAny_passesOwn hp (thn (hc pins s1 σ1 H1 _ I1 (turn n σ1 H1 w1)) fun b s2 ⟨H2, I2, q2⟩ => ?_)
  cases b with
  | true =>
    obtain ⟨N, hN, q2⟩ := q2
    rw [if_pos rfl]
    refine wpAny_passesOwn hp (thn (hb pins s2 σ1 H2 _ I2 q2) fun f s3 q3 => ?_)
    cases f with
    | next =>
      obtain ⟨σ3, H3, I3, n3⟩ := q3
      obtain ⟨m', hm, w3⟩ := hN σ3 H3 n3
      exact ⟨m', hm, σ3, H3, I3, w3⟩
    | cont =>
      obtain ⟨σ3, H3, I3, n3⟩ := q3
      obtain ⟨m', hm, w3⟩ := hN σ3 H3 n3
      exact ⟨m', hm, σ3, H3, I3, w3⟩
    | brk => exact q3
    | ret v => exact q3
  | false =>
    rw [if_neg Bool.false_ne_true]
    exact wpAny_execs_nil ⟨σ1, H2, I2, q2⟩
end
/-! ### what a loop or a comprehension walks -/
/-- at turn i: it yields x (the heap may grow), or it stops -/
structure It where
  go : Nat → Hp → Prop
  yld : Nat → Hp → V → Hp → Prop
  stop : Nat → Hp → Prop
/-- the iterator's own objects may turn: they are not the frame's, not pinned, younger than the entry (or a comprehension's own) -/
def FpOk (X : Cx) (pins : List (Addr × Obj)) (H : Hp) (b : Addr) : Prop :=
  H b = none ∧ b ≠ X.env.locals ∧ b ∉ X.fs ∧ (b ∈ X.ex ∨ X.s_0.heap.objs.size ≤ b) ∧ (∀ x c, X.env.cells.lookup x = some c → c ≠ b) ∧ ∀ p ∈ X.pn ++ pins, p.1 ≠ b
theorem Inv.fpOk {X : Cx} {pins : List (Addr × Obj)} {σ : St} {H H' : Hp} {s : Shared} {b : Addr} (I : Inv X pins σ H s) (hb : s.heap.objs.size ≤ b) (hn : H' b = none) : FpOk X pins H' b := by
  refine ⟨hn, Nat.ne_of_gt (Nat.lt_of_lt_of_le I.lt hb), I.nofs hb, .inr (Nat.le_trans I.sz hb), fun x c e z => ?_, fun p hp z => ?_⟩
  · obtain ⟨v, q⟩ := I.cell x c e
    exact absurd (Nat.lt_of_lt_of_le q.lt (by rw [z]; exact hb)) (Nat.lt_irrefl _)
  · exact absurd (Nat.lt_of_lt_of_le (Heap.lt_size (I.pin p hp).1) (by rw [z]; exact hb)) (Nat.lt_irrefl _)
structure Turn (P : Program) (w : World) (K : PySem.W.Frag) (tg : Expr) (J : It) (fp : List Addr) (it : Addr) (tn : Nat → Heap → Prop) : Prop where
  mem : it ∈ fp
  obj : ∀ i h, tn i h → ∀ b ∈ fp, ∃ o, h.get? b = some o ∧ ∀ v, o.data ≠ .cell v
  keep : ∀ i h h', tn i h → (∀ b ∈ fp, ∀ o, h.get? b = some o → h'.get? b = some o) → tn i h'
  item : ∀ (X : Cx), X.prog = P → X.w = w → X.K = K → X.calm = true → ∀ (i : Nat) (pins : List (Addr × Obj)) (s : Shared) (σ : St) (H : Hp) (E : Value → Shared → Prop), Inv X pins σ H s → (∀ b ∈ fp, FpOk X pins H b) → tn i s.heap → J.go i H →
    wpAny (model P w) X.A (pyNext (.ref it)) (fun r s1 => ∃ u, r = some u ∧
      wpAny (model P w) X.A (letOwnedTupleGo tg (.ref it) u) (fun _ s2 => ∃ x H', Inv X pins σ H' s2 ∧ RelV x u ∧ J.yld i H x H' ∧ tn (i + 1) s2.heap ∧ ∀ b ∈ fp, H' b = none) E s1) E s
  done : ∀ (X : Cx), X.prog = P → X.w = w → X.K = K → X.calm = true → ∀ (i : Nat) (pins : List (Addr × Obj)) (s : Shared) (σ : St) (H : Hp) (E : Value → Shared → Prop), Inv X pins σ H s → (∀ b ∈ fp, FpOk X pins H b) → tn i s.heap → J.stop i H →
    wpAny (model P w) X.A (pyNext (.ref it)) (fun r s1 => r = none ∧ Inv X pins σ H s1) E s
  self : ∀ (A : Around) (i : Nat) (s : Shared) (Q : Value → Shared → Prop) (E : Value → Shared → Prop), tn i s.heap → Q (.ref it) s → wpAny (model P w) A (pyIter (.ref it)) Q E s
abbrev TI := St → Hp → (It → Hp → Prop) → Prop
/-- an iterator has come -/
def PIE (X : Cx) (pins : List (Addr × Obj)) (σ : St) (tg : Expr) (R : It → Hp → Prop) (itv : Value) (s2 : Shared) : Prop :=
  ∃ (it : Addr) (fp : List Addr) (tn : Nat → Heap → Prop) (J : It) (H' : Hp), itv = .ref it ∧ Inv X pins σ H' s2 ∧ Turn X.prog X.w X.K tg J fp it tn ∧ tn 0 s2.heap ∧ (∀ b ∈ fp, FpOk X pins H' b) ∧ R J H'
def PI (X : Cx) (tg iter : Expr) (wi : TI) : Prop :=
  ∀ (pins : List (Addr × Obj)) (s : Shared) (σ : St) (H : Hp) (R : It → Hp → Prop), Inv X pins σ H s → wi σ H R →
    wpAny (model X.prog X.w) X.A (eval iter X.env) (fun v s1 => wpAny (model X.prog X.w) X.A (pyIter v) (PIE X pins σ tg R) X.xe s1) X.xe s
/-- the step ahead of the store is nothing for an iterator that keeps no tuple -/
theorem go_of {M : Model} {A : Around} {E : Value → Shared → Prop} {s : Shared} {tg : Expr} {it : Addr} {u : Value} {o : Obj} {n : String} {vs : Array Value} {Q : Unit → Shared → Prop} (ho : s.heap.get? it = some o) (hc : o.cls = .type n) (hd : o.data = .fields vs)
    (hn : ["enumerate", "zip", "dict_itemiterator", "dict_reverseitemiterator", "odict_iterator", "itertools.zip_longest", "itertools.pairwise"].contains n = false) (hQ : Q () s) : wpAny M A (letOwnedTupleGo tg (.ref it) u) Q E s := by
  unfold letOwnedTupleGo
  cases tg <;> first
    | exact wpAny_pure hQ
    | (cases u <;> first
        | exact wpAny_pure hQ
        | (refine wpAny_bind (wpAny_load ho ?_)
           rw [hc, hd]
           show wpAny M A (if (["enumerate", "zip", "dict_itemiterator", "dict_reverseitemiterator", "odict_iterator", "itertools.zip_longest", "itertools.pairwise"].contains n && vs[0]? == some (rawInt _)) = true then _ else _) Q E s
           rw [if_neg (by intro h; rw [hn, Bool.false_and] at h; cases h)]
           exact wpAny_pure hQ))
/-- the list at a, as it stands at each turn (a loop may append to it) -/
def Itl (K : PySem.W.Frag) (a : Addr) : It :=
  ⟨fun i H => ∃ xs x, SqL K H a xs ∧ xs[i]? = some x, fun i H x H' => H' = H ∧ ∀ xs, SqL K H a xs → xs[i]? = some x, fun i H => ∃ xs, SqL K H a xs ∧ xs.length ≤ i⟩
/-- lo, lo + 1, .. (n of them) -/
def Itr (lo : Int) (n : Nat) : It := ⟨fun i _ => i < n, fun i H x H' => H' = H ∧ x = .int (lo + i), fun i _ => n ≤ i⟩
theorem turn_list {P : Program} {w : World} {K : PySem.W.Frag} {tg : Expr} (a it : Addr) : Turn P w K tg (Itl K a) [it] it (fun i h => h.IsListIter it a i) where
  mem := by simp
  obj := fun i h st b hb => by
    have e : b = it := by simpa using hb
    subst e
    obtain ⟨o, e, c, d⟩ := st
    exact ⟨o, e, fun v z => by rw [d] at z; cases z⟩
  keep := fun i h h' st k => st.at fun o e => k it (by simp) o e
  item := by
    intro X hP hw hK hc i pins s σ H E I hf st hg
    subst hP hw hK
    obtain ⟨xs, x, hq, hx⟩ := hg
    obtain ⟨its, rv, p, hz⟩ := I.list hq
    obtain ⟨u, hu, ru⟩ := rv.get hx
    obtain ⟨f0, f1, f2, f3, f4, f5⟩ := hf it (by simp)
    refine wpAny_pyNext_list_item st p.isList (x := u) (by simpa using hu) fun h' st' sb => ?_
    have I1 : Inv X pins σ H { s with heap := h' } := I.turned (t' := s.toks) (fun b o hb e => (sb.2 b hb).trans e) f0 f1 f3 f4 f5
    obtain ⟨o, e, c, d⟩ := id st'
    exact ⟨u, rfl, go_of (s := { s with heap := h' }) e c d (by decide) ⟨x, H, I1, ru, ⟨rfl, fun ys hy => by rw [I.list_inj hy hq]; exact hx⟩, st', fun b hb => (hf b hb).1⟩⟩
  done := by
    intro X hP hw hK hc i pins s σ H E I hf st hg
    subst hP hw hK
    obtain ⟨xs, hq, hx⟩ := hg
    obtain ⟨its, rv, p, hz⟩ := I.list hq
    obtain ⟨f0, f1, f2, f3, f4, f5⟩ := hf it (by simp)
    have hl := rv.length
    exact wpAny_pyNext_list_end (I.ok.hd hc) st p.isList (by simp; omega) fun h' eb => ⟨rfl, I.turned (t' := s.toks) (fun b o hb e => eb b o hb e) f0 f1 f3 f4 f5⟩
  self := fun _ _ _ _ _ st h => wpAny_pyIter_listiter st h
theorem turn_range {P : Program} {w : World} {K : PySem.W.Frag} {tg : Expr} (it : Addr) (lo : Int) (n : Nat) : Turn P w K tg (Itr lo n) [it] it (fun i h => IsRangeIter h it (lo + (i : Nat) * 1) ((n : Int) - (i : Nat)) 1) where
  mem := by simp
  obj := fun i h st b hb => by
    have e : b = it := by simpa using hb
    subst e
    exact ⟨_, st, fun v z => by
      have z' : Data.fields _ = Data.cell v := z
      cases z'⟩
  keep := fun i h h' st k => k it (by simp) _ st
  item := by
    intro X hP hw hK hc i pins s σ H E I hf st hg
    subst hP hw hK
    obtain ⟨f0, f1, f2, f3, f4, f5⟩ := hf it (by simp)
    have W := Walks.range (prog := X.prog) (w := X.w) (I.ok.hd hc) it lo 1 n
    refine W.item i s _ _ hg st fun v h' tk hv st' kk => ?_
    obtain ⟨t, rfl⟩ := hv
    have I1 : Inv X pins σ H { s with heap := h', toks := tk } := I.turned (fun b o hb e => kk b o (by simpa using hb) e) f0 f1 f3 f4 f5
    refine ⟨_, rfl, go_of (s := { s with heap := h', toks := tk }) (n := "range_iterator") st' rfl rfl (by decide) ⟨.int (lo + i), H, I1, ⟨t, ?_⟩, ⟨rfl, rfl⟩, st', fun b hb => (hf b hb).1⟩⟩
    rw [Int.mul_one]
  done := by
    intro X hP hw hK hc i pins s σ H E I hf st hg
    subst hP hw hK
    obtain ⟨f0, f1, f2, f3, f4, f5⟩ := hf it (by simp)
    exact wpAny_pyNext_range_end (I.ok.hd hc) st (by have : n ≤ i := hg; omega) fun h' eb => ⟨rfl, I.turned (t' := s.toks) (fun b o hb e => eb b o hb e) f0 f1 f3 f4 f5⟩
  self := fun _ _ _ _ _ st h => wpAny_pyIter_rangeiter st h
end L2
namespace L2
open PySem PySem.Spec PyProof.Rows
section
variable {X : Cx} {tg : Expr}
def iList (K : PySem.W.Frag) (tl : TE) : TI := fun σ H R => tl σ H fun x H1 => ∃ a, x = .ref a ∧ (∃ xs, SqL K H1 a xs) ∧ R (Itl K a) H1
theorem pi_list {l : Expr} {tl : TE} (hl : PE X l tl) : PI X tg l (iList X.K tl) := by
  intro pins s σ H R I h
  refine thn (hl pins s σ H _ I h) fun v s1 ⟨x, H1, I1, r1, q1⟩ => ?_
  obtain ⟨a, e, ⟨xs, hq⟩, q⟩ := q1
  subst e
  cases r1
  obtain ⟨its, rv, p, hz⟩ := I1.list hq
  refine wpAny_pyIter_list p.isList ?_
  refine ⟨s1.heap.objs.size, [s1.heap.objs.size], _, _, H1, rfl, I1.kept (t' := s1.toks) fun b o e => Heap.get?_push_of_some _ e, turn_list a _, ⟨_, Heap.get?_push_size _ rfl, rfl, rfl⟩, fun b hb => ?_, q⟩
  have e : b = s1.heap.objs.size := by simpa using hb
  subst e
  exact I1.fpOk (Nat.le_refl _) (I1.hok.fresh (Nat.le_refl _))
/-- a range object just made, walked -/
theorem range_it {pins : List (Addr × Obj)} {σ : St} {H : Hp} {s : Shared} {R : It → Hp → Prop} {E : Value → Shared → Prop} {lo hi : Int} {t u v : Tok} {tk : Nat} (I : Inv X pins σ H s) (h1 : -(2 ^ 62) ≤ lo) (h2 : lo < 2 ^ 62) (h3 : -(2 ^ 62) ≤ hi) (h4 : hi < 2 ^ 62)
    (q : R (Itr lo (hi - lo).toNat) H) : wpAny (model X.prog X.w) X.A (pyIter (.ref s.heap.objs.size)) (PIE X pins σ tg R) E { s with heap := s.heap.push { cls := .type "range", data := .fields #[.int lo t, .int hi u, .int 1 v] }, toks := tk } := by
  refine wpAny_pyIter_range (IsRange.new ..) (small_one h1 h2 h3 h4) ?_
  have I1 : Inv X pins σ H { s with heap := s.heap.push { cls := .type "range", data := .fields #[.int lo t, .int hi u, .int 1 v] }, toks := tk } := I.kept fun b o e => Heap.get?_push_of_some _ e
  refine ⟨(s.heap.push { cls := .type "range", data := .fields #[.int lo t, .int hi u, .int 1 v] }).objs.size, [(s.heap.push { cls := .type "range", data := .fields #[.int lo t, .int hi u, .int 1 v] }).objs.size], _, _, H, rfl,
    I1.kept (t' := tk) fun b o e => Heap.get?_push_of_some _ e, turn_range _ lo (hi - lo).toNat, ?_, fun b hb => ?_, q⟩
  · have e1 : lo + ((0 : Nat) : Int) * 1 = lo := by simp
    have e2 : (((hi - lo).toNat : Nat) : Int) - ((0 : Nat) : Int) = Builtin.Range.rangeSize lo hi 1 := by rw [rangeSize_one]; split <;> omega
    show IsRangeIter _ _ (lo + ((0 : Nat) : Int) * 1) ((((hi - lo).toNat : Nat) : Int) - ((0 : Nat) : Int)) 1
    rw [e1, e2]
    exact Heap.get?_push_size _ rfl
  · have e : b = (s.heap.push { cls := .type "range", data := .fields #[.int lo t, .int hi u, .int 1 v] }).objs.size := by simpa using hb
    subst e
    exact I1.fpOk (Nat.le_refl _) (I1.hok.fresh (Nat.le_refl _))
def iRng1 (ta : TA) : TI := fun σ H R => ta σ H fun vs H1 => ∃ j : Int, vs = [.int j] ∧ -(2 ^ 62) ≤ j ∧ j < 2 ^ 62 ∧ R (Itr 0 j.toNat) H1
theorem pi_range1 {a : Expr} {ta : TA} {p pos : Pos} (hg : Gl X "range") (hm : X.mg "range" = none) (ha : PA X [a] ta) (hs : starEach [a] X.env = [(false, eval a X.env)] := by rfl) : PI X tg (.Call (.Name "range" p) [a] [] pos) (iRng1 ta) := by
  intro pins s σ H R I h
  refine Call_ (ld_blt I hg hm boot_range (PyProof.Rows.callWith_type1 (thn (ha pos pins s σ H _ I h) fun us s1 ⟨vs, H1, I1, r1, q1⟩ => ?_) hs rfl))
  obtain ⟨j, e, q1, q2, q⟩ := q1
  subst e
  cases r1 with
  | cons r rr =>
    cases rr
    obtain ⟨t, rfl⟩ := r
    exact call_range_1 (range_it I1 (by omega) (by omega) q1 q2 (by simpa using q))
/-! ### for -/
/-- W: the invariant by the turn and a measure; N: what the body is to reach -/
def tFor (wi : TI) (g : TG) (tb : TS) : TS := fun D σ H => wi σ H fun J H1 => ∃ W : Nat → Nat → St → Hp → Prop, (∃ m, W 0 m σ H1) ∧ ∀ i m σ H, W i m σ H →
  (J.stop i H ∧ D.nx σ H) ∨ (J.go i H ∧ ∃ N : St → Hp → Prop, (∀ σ' H', N σ' H' → ∃ m', m' < m ∧ W (i + 1) m' σ' H') ∧ ∀ x H', J.yld i H x H' → g x σ H' fun σ2 H2 => tb { D with nx := N, ct := N, bk := D.nx } σ2 H2)
/-- the records at fp as they stand -/
def pinsAt (fp : List Addr) (h : Heap) : List (Addr × Obj) := fp.filterMap fun b => (h.get? b).map fun o => (b, o)
theorem mem_pinsAt {fp : List Addr} {h : Heap} {b : Addr} {o : Obj} (hb : b ∈ fp) (e : h.get? b = some o) : (b, o) ∈ pinsAt fp h := List.mem_filterMap.mpr ⟨b, hb, by rw [e]; rfl⟩
theorem of_pinsAt {fp : List Addr} {h : Heap} {p : Addr × Obj} (hp : p ∈ pinsAt fp h) : p.1 ∈ fp ∧ h.get? p.1 = some p.2 := by
  obtain ⟨b, hb, e⟩ := List.mem_filterMap.mp hp
  cases q : h.get? b with
  | none => rw [q] at e; cases e
  | some o =>
    rw [q] at e
    have e' : (b, o) = p := Option.some.inj e
    subst e'
    exact ⟨hb, q⟩
theorem Inv.pinned {pins : List (Addr × Obj)} {σ : St} {H : Hp} {s : Shared} {fp : List Addr} (I : Inv X pins σ H s) (hf : ∀ b ∈ fp, FpOk X pins H b) (ho : ∀ b ∈ fp, ∃ o, s.heap.get? b = some o ∧ ∀ v, o.data ≠ .cell v) : Inv X (pins ++ pinsAt fp s.heap) σ H s :=
  I.pins_of fun p hp => (List.mem_append.mp hp).elim (fun z => I.pin p (List.mem_append_right _ z)) fun z => by
    obtain ⟨hb, e⟩ := of_pinsAt z
    obtain ⟨f0, f1, f2, _⟩ := hf p.1 hb
    obtain ⟨o, e', d⟩ := ho p.1 hb
    rw [e] at e'; cases e'
    exact ⟨e, f0, f1, f2, d⟩
theorem Inv.unpinned {pins pl : List (Addr × Obj)} {σ : St} {H : Hp} {s : Shared} (I : Inv X (pins ++ pl) σ H s) : Inv X pins σ H s := I.pins_of fun p hp => I.pin p (List.mem_append_right _ (List.mem_append_left _ hp))
theorem ps_for {iter : Expr} {body : List Stmt} {wi : TI} {g : TG} {tb : TS} {pos : Pos} (hp : PassesOwn (model X.prog X.w) X.A X.env X.xe) (hc : X.calm = true) (hi : PI X tg iter wi) (hg : PG X tg g) (hb : PSs X body tb)
    (hs : ∀ x, foldedSetIterable iter X.env x = pure x := by intro _; rfl) : PS X (.For tg iter body [] pos) (tFor wi g tb) := by
  intro pins s σ H D I h
  refine wpAny_For (thn (hi pins s σ H _ I h) fun v s1 h1 => thn h1 fun itv s2 h2 => ?_) hs
  obtain ⟨it, fp, tn, J, H2, e, I2, T, st2, f2, W, ⟨m0, w0⟩, turn⟩ := h2
  subst e
  -- what stays true of the iterator's objects through the loop
  have stat : ∀ {H' : Hp}, (∀ b ∈ fp, H' b = none) → ∀ b ∈ fp, FpOk X pins H' b := fun hn b hb => ⟨hn b hb, (f2 b hb).2⟩
  refine codeAny_forLoop_any (fun n s' => ∃ i σ' H', Inv X pins σ' H' s' ∧ tn i s'.heap ∧ (∀ b ∈ fp, H' b = none) ∧ W i n σ' H') ?_ m0 ⟨0, σ, H2, I2, st2, fun b hb => (f2 b hb).1, w0⟩
  rintro n s3 ⟨i, σ3, H3, I3, st3, fr3, w3⟩
  rcases turn i n σ3 H3 w3 with ⟨stop, qn⟩ | ⟨go, N, hN, step⟩
  · refine wpAny_passesOwn hp (thn (T.done X rfl rfl rfl hc i pins s3 σ3 H3 X.xe I3 (stat fr3) st3 stop) fun r s4 ⟨hr, I4⟩ => ?_)
    subst hr
    exact wpAny_execs_nil ⟨σ3, H3, I4, qn⟩
  · refine wpAny_passesOwn hp (thn (T.item X rfl rfl rfl hc i pins s3 σ3 H3 X.xe I3 (stat fr3) st3 go) fun r s4 ⟨u, hr, h4⟩ => ?_)
    subst hr
    refine wpAny_passesOwn hp (thn h4 fun _ s5 ⟨x, H5, I5, r5, y5, st5, fr5⟩ => ?_)
    have I5' := I5.pinned (stat fr5) (T.obj _ _ st5)
    refine wpAny_passesOwn hp (thn (hg _ s5 σ3 H5 x u _ I5' r5 (step x H5 y5)) fun _ s6 ⟨σ6, H6, I6, q6⟩ => ?_)
    refine wpAny_passesOwn hp (thn (hb _ s6 σ6 H6 _ I6 q6) fun f s7 q7 => ?_)
    have again : ∀ {σ7 : St} {H7 : Hp}, Inv X (pins ++ pinsAt fp s5.heap) σ7 H7 s7 → N σ7 H7 → ∃ m, m < n ∧ ∃ i σ' H', Inv X pins σ' H' s7 ∧ tn i s7.heap ∧ (∀ b ∈ fp, H' b = none) ∧ W i m σ' H' := fun {σ7 H7} I7 n7 => by
      obtain ⟨m', hm, w7⟩ := hN σ7 H7 n7
      refine ⟨m', hm, i + 1, σ7, H7, I7.unpinned, T.keep _ _ _ st5 fun b hb o e => (I7.pin (b, o) (List.mem_append_right _ (List.mem_append_right _ (mem_pinsAt hb e)))).1, fun b hb => ?_, w7⟩
      obtain ⟨o, e, d⟩ := T.obj _ _ st5 b hb
      exact (I7.pin (b, o) (List.mem_append_right _ (List.mem_append_right _ (mem_pinsAt hb e)))).2.1
    cases f with
    | next => obtain ⟨σ7, H7, I7, n7⟩ := q7; exact again I7 n7
    | cont => obtain ⟨σ7, H7, I7, n7⟩ := q7; exact again I7 n7
    | brk => obtain ⟨σ7, H7, I7, q7⟩ := q7; exact ⟨σ7, H7, I7.unpinned, q7⟩
    | ret v => obtain ⟨x7, σ7, H7, I7, r7, q7⟩ := q7; exact ⟨x7, σ7, H7, I7.unpinned, r7, q7⟩
end
/-! ### the forms one uses -/
/-- over a list that the body leaves as it is -/
theorem for_list {K : PySem.W.Frag} {a : Addr} {xs : List V} {g : TG} {tb : TS} {D : Ends} {σ : St} {H : Hp} (Pv : Nat → St → Hp → Prop) (h0 : Pv 0 σ H) (hl : ∀ i σ H, i ≤ xs.length → Pv i σ H → SqL K H a xs)
    (hs : ∀ i x σ H, xs[i]? = some x → Pv i σ H → g x σ H fun σ2 H2 => tb { D with nx := Pv (i + 1), ct := Pv (i + 1), bk := D.nx } σ2 H2) (hd : ∀ σ H, Pv xs.length σ H → D.nx σ H) :
    ∃ W : Nat → Nat → St → Hp → Prop, (∃ m, W 0 m σ H) ∧ ∀ i m σ H, W i m σ H →
      ((Itl K a).stop i H ∧ D.nx σ H) ∨ ((Itl K a).go i H ∧ ∃ N : St → Hp → Prop, (∀ σ' H', N σ' H' → ∃ m', m' < m ∧ W (i + 1) m' σ' H') ∧ ∀ x H', (Itl K a).yld i H x H' → g x σ H' fun σ2 H2 => tb { D with nx := N, ct := N, bk := D.nx } σ2 H2) := by
  refine ⟨fun i m σ H => m = xs.length - i ∧ i ≤ xs.length ∧ Pv i σ H, ⟨xs.length, by simp, Nat.zero_le _, h0⟩, ?_⟩
  rintro i m σ H ⟨rfl, hi, p⟩
  have q := hl i σ H hi p
  by_cases hlt : i < xs.length
  · refine .inr ⟨⟨xs, xs[i], q, by simp [hlt]⟩, Pv (i + 1), fun σ' H' p' => ⟨xs.length - (i + 1), by omega, rfl, hlt, p'⟩, fun x H' y => ?_⟩
    obtain ⟨e, y⟩ := y
    subst e
    exact hs i x σ _ (y xs q) p
  · have e : i = xs.length := by omega
    subst e
    exact .inl ⟨⟨xs, q, Nat.le_refl _⟩, hd σ H p⟩
theorem for_range {lo : Int} {n : Nat} {g : TG} {tb : TS} {D : Ends} {σ : St} {H : Hp} (Pv : Nat → St → Hp → Prop) (h0 : Pv 0 σ H)
    (hs : ∀ i σ H, i < n → Pv i σ H → g (.int (lo + i)) σ H fun σ2 H2 => tb { D with nx := Pv (i + 1), ct := Pv (i + 1), bk := D.nx } σ2 H2) (hd : ∀ σ H, Pv n σ H → D.nx σ H) :
    ∃ W : Nat → Nat → St → Hp → Prop, (∃ m, W 0 m σ H) ∧ ∀ i m σ H, W i m σ H →
      ((Itr lo n).stop i H ∧ D.nx σ H) ∨ ((Itr lo n).go i H ∧ ∃ N : St → Hp → Prop, (∀ σ' H', N σ' H' → ∃ m', m' < m ∧ W (i + 1) m' σ' H') ∧ ∀ x H', (Itr lo n).yld i H x H' → g x σ H' fun σ2 H2 => tb { D with nx := N, ct := N, bk := D.nx } σ2 H2) := by
  refine ⟨fun i m σ H => m = n - i ∧ i ≤ n ∧ Pv i σ H, ⟨n, by simp, Nat.zero_le _, h0⟩, ?_⟩
  rintro i m σ H ⟨rfl, hi, p⟩
  by_cases hlt : i < n
  · refine .inr ⟨hlt, Pv (i + 1), fun σ' H' p' => ⟨n - (i + 1), by omega, rfl, hlt, p'⟩, fun x H' y => ?_⟩
    obtain ⟨e, y⟩ := y
    subst e y
    exact hs i σ _ hlt p
  · have e : i = n := by omega
    subst e
    exact .inl ⟨Nat.le_refl _, hd σ H p⟩
/-- while, by a word and a measure of the state -/
theorem while_by {c : TT} {tb : TS} {D : Ends} {σ : St} {H : Hp} (Pv : St → Hp → Prop) (μ : St → Hp → Nat) (h0 : Pv σ H)
    (hs : ∀ σ H, Pv σ H → c σ H fun b H1 => if b = true then tb { D with nx := fun σ' H' => Pv σ' H' ∧ μ σ' H' < μ σ H, ct := fun σ' H' => Pv σ' H' ∧ μ σ' H' < μ σ H, bk := D.nx } σ H1 else D.nx σ H1)
    (mono : ∀ σ H Q Q', (∀ b H1, Q b H1 → Q' b H1) → c σ H Q → c σ H Q') : tWhile c tb D σ H := by
  refine ⟨fun m σ H => m = μ σ H ∧ Pv σ H, ⟨_, rfl, h0⟩, ?_⟩
  rintro m σ H ⟨rfl, p⟩
  refine mono σ H _ _ (fun b H1 q => ?_) (hs σ H p)
  cases b with
  | true => exact ⟨_, fun σ' H' ⟨p', l⟩ => ⟨_, l, rfl, p'⟩, q⟩
  | false => exact q
end L2
namespace L2
open PySem PySem.Spec PyProof.Rows
abbrev R2 := V → V → Hp → VK → Prop
/-- a two-place operation on values: f is binaryOp op, inplaceOp op or compareOp op -/
def OpR (X : Cx) (f : Value → Value → Sem Value) (r : R2) : Prop :=
  ∀ (pins : List (Addr × Obj)) (s : Shared) (σ : St) (H : Hp) (x y : V) (v u : Value) (Q : VK), Inv X pins σ H s → RelV x v → RelV y u → r x y H Q →
    wpAny (model X.prog X.w) X.A (f v u) (EP X pins σ Q) X.xe s
/-- a one-place operation -/
def UnR (X : Cx) (f : Value → Sem Value) (r : V → Hp → VK → Prop) : Prop :=
  ∀ (pins : List (Addr × Obj)) (s : Shared) (σ : St) (H : Hp) (x : V) (v : Value) (Q : VK), Inv X pins σ H s → RelV x v → r x H Q →
    wpAny (model X.prog X.w) X.A (f v) (EP X pins σ Q) X.xe s
/-- a call of a value that is known (a builtin, a type) with values -/
def CallR (X : Cx) (f : Value) (r : List V → Hp → VK → Prop) : Prop :=
  ∀ (pins : List (Addr × Obj)) (s : Shared) (σ : St) (H : Hp) (xs : List V) (us : List Value) (Q : VK), Inv X pins σ H s → Vals xs us → r xs H Q →
    wpAny (model X.prog X.w) X.A (call f us) (EP X pins σ Q) X.xe s
def tOp (r : R2) (ta tb : TE) : TE := fun σ H Q => ta σ H fun x H1 => tb σ H1 fun y H2 => r x y H2 Q
def tUn (r : V → Hp → VK → Prop) (ta : TE) : TE := fun σ H Q => ta σ H fun x H1 => r x H1 Q
/-- ints in, under C, and a value out -/
def rI (C : Int → Int → Prop) (g : Int → Int → V) : R2 := fun x y H Q => ∃ i j, x = .int i ∧ y = .int j ∧ C i j ∧ Q (g i j) H
def rI0 (g : Int → Int → V) : R2 := fun x y H Q => ∃ i j, x = .int i ∧ y = .int j ∧ Q (g i j) H
def rU (g : Int → V) : V → Hp → VK → Prop := fun x H Q => ∃ i, x = .int i ∧ Q (g i) H
section
variable {X : Cx} {a b c : Expr} {ta tb tc : TE} {pos : Pos}
theorem binT (ha : PE X a ta) (hb : PE X b tb) {pins : List (Addr × Obj)} {s : Shared} {σ : St} {H : Hp} {R : V → V → Hp → Prop} (I : Inv X pins σ H s)
    (h : ta σ H fun x H1 => tb σ H1 fun y H2 => R x y H2) {Q : Value → Shared → Prop} {f : Value → Value → Sem Value}
    (hf : ∀ v u s2 x y H2, Inv X pins σ H2 s2 → RelV x v → RelV y u → R x y H2 → wpAny (model X.prog X.w) X.A (f v u) Q X.xe s2) :
    wpAny (model X.prog X.w) X.A (eval a X.env) (fun v s₁ => wpAny (model X.prog X.w) X.A (eval b X.env) (fun u s₂ => wpAny (model X.prog X.w) X.A (f v u) Q X.xe s₂) X.xe s₁) X.xe s := by
  refine thn (ha pins s σ H _ I h) fun v s1 ⟨x, H1, I1, r1, q1⟩ => ?_
  refine thn (hb pins s1 σ H1 _ I1 q1) fun u s2 ⟨y, H2, I2, r2, q2⟩ => ?_
  exact hf v u s2 x y H2 I2 r1 r2 q2
theorem pe_op {op : Operator} {r : R2} (ho : OpR X (binaryOp op) r) (ha : PE X a ta) (hb : PE X b tb) : PE X (.BinOp a op b pos) (tOp r ta tb) := by
  intro pins s σ H Q I h
  exact wpAny_BinOp (binT ha hb I h fun v u s2 x y H2 I2 rx ry q => ho pins s2 σ H2 x y v u Q I2 rx ry q)
theorem pe_un {op : UnaryOp} {r : V → Hp → VK → Prop} (ho : UnR X (unaryOp op) r) (ha : PE X a ta) : PE X (.UnaryOp op a pos) (tUn r ta) := by
  intro pins s σ H Q I h
  exact UnaryOp_ (thn (ha pins s σ H _ I h) fun v s1 ⟨x, H1, I1, r1, q1⟩ => ho pins s1 σ H1 x v Q I1 r1 q1)
/-! ### ints -/
theorem opI {f : Value → Value → Sem Value} {C : Int → Int → Prop} {g : Int → Int → Int}
    (rule : ∀ (i j : Int) (t u : Tok) (s : Shared) (Q : Value → Shared → Prop) (E : Value → Shared → Prop), C i j → Q (.int (g i j) s.toks) { s with toks := s.toks + 1 } → wpAny (model X.prog X.w) X.A (f (.int i t) (.int j u)) Q E s) :
    OpR X f (rI C fun i j => .int (g i j)) := by
  intro pins s σ H x y v u Q I rx ry h
  obtain ⟨i, j, rfl, rfl, hc, q⟩ := h
  obtain ⟨t, rfl⟩ := rx
  obtain ⟨t', rfl⟩ := ry
  exact rule i j t t' s _ _ hc ⟨.int (g i j), H, I.tok _, ⟨_, rfl⟩, q⟩
theorem opI0 {f : Value → Value → Sem Value} {g : Int → Int → Int}
    (rule : ∀ (i j : Int) (t u : Tok) (s : Shared) (Q : Value → Shared → Prop) (E : Value → Shared → Prop), Q (.int (g i j) s.toks) { s with toks := s.toks + 1 } → wpAny (model X.prog X.w) X.A (f (.int i t) (.int j u)) Q E s) :
    OpR X f (rI0 fun i j => .int (g i j)) := by
  intro pins s σ H x y v u Q I rx ry h
  obtain ⟨i, j, rfl, rfl, q⟩ := h
  obtain ⟨t, rfl⟩ := rx
  obtain ⟨t', rfl⟩ := ry
  exact rule i j t t' s _ _ ⟨.int (g i j), H, I.tok _, ⟨_, rfl⟩, q⟩
theorem opB0 {f : Value → Value → Sem Value} {g : Int → Int → Bool}
    (rule : ∀ (i j : Int) (t u : Tok) (s : Shared) (Q : Value → Shared → Prop) (E : Value → Shared → Prop), Q (.bool (g i j)) s → wpAny (model X.prog X.w) X.A (f (.int i t) (.int j u)) Q E s) :
    OpR X f (rI0 fun i j => .bl (g i j)) := by
  intro pins s σ H x y v u Q I rx ry h
  obtain ⟨i, j, rfl, rfl, q⟩ := h
  obtain ⟨t, rfl⟩ := rx
  obtain ⟨t', rfl⟩ := ry
  exact rule i j t t' s _ _ ⟨.bl (g i j), H, I, rfl, q⟩
def CDiv (i j : Int) : Prop := 0 < j ∧ j < 1073741824
def CMul (i j : Int) : Prop := (-(2 ^ 64) < i ∧ i < 2 ^ 64) ∨ (-(2 ^ 64) < j ∧ j < 2 ^ 64)
theorem CMul.ok {i j : Int} (h : CMul i j) : IntMulOk i j := by
  rcases h with ⟨h1, h2⟩ | ⟨h1, h2⟩
  · exact .of_left (intBits_le_64 h1 h2)
  · exact .of_right (intBits_le_64 h1 h2)
theorem op_add : OpR X (binaryOp .Add) (rI0 fun i j => .int (i + j)) := opI0 fun _ _ _ _ _ _ _ q => add_int q
theorem op_sub : OpR X (binaryOp .Sub) (rI0 fun i j => .int (i - j)) := opI0 fun _ _ _ _ _ _ _ q => sub_int q
theorem op_mul : OpR X (binaryOp .Mult) (rI CMul fun i j => .int (i * j)) := opI fun _ _ _ _ _ _ _ hc q => mul_int q hc.ok
/-- // by a positive divisor -/
theorem op_fdiv : OpR X (binaryOp .FloorDiv) (rI CDiv fun i j => .int (i / j)) := opI fun i j _ _ _ _ _ hc q => by
  have h1 : (0 : Int) < j := hc.1
  have h2 : j < 1073741824 := hc.2
  exact floordiv_int (by omega) (by rw [Int.fdiv_eq_ediv_of_nonneg i (by omega)]; exact q) (.inl (PyProof.noPylong_small (by omega)))
/-- % by a positive divisor of any size -/
theorem op_mod : OpR X (binaryOp .Mod) (rI (fun _ j => 0 < j) fun i j => .int (i % j)) := opI fun i j _ _ _ _ _ hc q => by
  have h1 : (0 : Int) < j := hc
  exact mod_int' (by omega) (by rw [Int.fmod_eq_emod_of_nonneg i (by omega)]; exact q)
theorem unI {f : Value → Sem Value} {g : Int → Int}
    (rule : ∀ (i : Int) (t : Tok) (s : Shared) (Q : Value → Shared → Prop) (E : Value → Shared → Prop), Q (.int (g i) s.toks) { s with toks := s.toks + 1 } → wpAny (model X.prog X.w) X.A (f (.int i t)) Q E s) :
    UnR X f (rU fun i => .int (g i)) := by
  intro pins s σ H x v Q I rx h
  obtain ⟨i, rfl, q⟩ := h
  obtain ⟨t, rfl⟩ := rx
  exact rule i t s _ _ ⟨.int (g i), H, I.tok _, ⟨_, rfl⟩, q⟩
theorem un_neg : UnR X (unaryOp .USub) (rU fun i => .int (-i)) := unI fun _ _ _ _ _ q => neg_int q
/-! ### bools among ints: n += (a < b) -/
end
/-! ### comparisons -/
/-- the scalars that == tells apart as data does -/
def scal : V → V → Bool
  | .non, .non => true | .non, .int _ => true | .int _, .non => true | .non, .bl _ => true | .bl _, .non => true | .non, .str _ => true | .str _, .non => true
  | .int _, .int _ => true | .bl _, .bl _ => true | .str _, .str _ => true | .byt _, .byt _ => true
  | .int _, .str _ => true | .str _, .int _ => true | .bl _, .str _ => true | .str _, .bl _ => true
  | _, _ => false
def rEq : R2 := fun x y H Q => scal x y = true ∧ Q (.bl (decide (x = y))) H
def rNe : R2 := fun x y H Q => scal x y = true ∧ Q (.bl (!decide (x = y))) H
theorem dec_int {i j : Int} : decide (V.int i = V.int j) = (i == j) := by
  rw [Bool.eq_iff_iff]
  simp
theorem dec_bl {i j : Bool} : decide (V.bl i = V.bl j) = (i == j) := by
  rw [Bool.eq_iff_iff]
  simp
theorem dec_str {i j : Str} : decide (V.str i = V.str j) = (i == j) := by
  rw [Bool.eq_iff_iff]
  simp
theorem dec_byt {i j : Array UInt8} : decide (V.byt i = V.byt j) = (i.toList == j.toList) := by
  rw [Bool.eq_iff_iff]
  cases i
  cases j
  simp
section
variable {X : Cx} {a b c : Expr} {ta tb tc : TE} {pos : Pos}
theorem fin_bl {pins : List (Addr × Obj)} {σ : St} {H : Hp} {s : Shared} {Q : VK} {k k' : Bool} (I : Inv X pins σ H s) (q : Q (.bl k) H) (e : k = k') : EP X pins σ Q (.bool k') s := by
  subst e
  exact ⟨.bl k, H, I, rfl, q⟩
theorem op_eq : OpR X (compareOp .Eq) rEq := by
  intro pins s σ H x y v u Q I rx ry h
  obtain ⟨hs, q⟩ := h
  cases x with
  | non =>
    cases rx
    cases y with
    | non => cases ry; exact PySem.EqNone.eq_none_none (fin_bl I q (by simp))
    | bl j => cases ry; exact PySem.EqNone.eq_none_bool (fin_bl I q (by simp))
    | int j => obtain ⟨t', rfl⟩ := ry; exact PySem.EqNone.eq_none_int (fin_bl I q (by simp))
    | str j => obtain ⟨t', rfl⟩ := ry; exact PySem.EqNone.eq_none_str (fin_bl I q (by simp))
    | _ => exact absurd (show false = true from hs) Bool.false_ne_true
  | bl i =>
    cases rx
    cases y with
    | non => cases ry; exact PySem.EqNone.eq_bool_none (fin_bl I q (by simp))
    | bl j => cases ry; exact eq_bool (fin_bl I q dec_bl)
    | str j => obtain ⟨t', rfl⟩ := ry; exact PySem.EqMixed.eq_bool_str (fin_bl I q (by simp))
    | _ => exact absurd (show false = true from hs) Bool.false_ne_true
  | int i =>
    obtain ⟨t, rfl⟩ := rx
    cases y with
    | non => cases ry; exact PySem.EqNone.eq_int_none (fin_bl I q (by simp))
    | int j => obtain ⟨t', rfl⟩ := ry; exact eq_int (fin_bl I q dec_int)
    | str j => obtain ⟨t', rfl⟩ := ry; exact PySem.EqMixed.eq_int_str (fin_bl I q (by simp))
    | _ => exact absurd (show false = true from hs) Bool.false_ne_true
  | str i =>
    obtain ⟨t, rfl⟩ := rx
    cases y with
    | non => cases ry; exact PySem.EqNone.eq_str_none (fin_bl I q (by simp))
    | bl j => cases ry; exact PySem.EqMixed.eq_str_bool (fin_bl I q (by simp))
    | int j => obtain ⟨t', rfl⟩ := ry; exact PySem.EqMixed.eq_str_int (fin_bl I q (by simp))
    | str j => obtain ⟨t', rfl⟩ := ry; exact eq_str (fin_bl I q dec_str)
    | _ => exact absurd (show false = true from hs) Bool.false_ne_true
  | byt i =>
    obtain ⟨t, rfl⟩ := rx
    cases y with
    | byt j => obtain ⟨t', rfl⟩ := ry; exact PySem.W.eq_bytes (fin_bl I q dec_byt)
    | _ => exact absurd (show false = true from hs) Bool.false_ne_true
  | _ => cases y <;> exact absurd (show false = true from hs) Bool.false_ne_true
theorem op_ne : OpR X (compareOp .NotEq) rNe := by
  intro pins s σ H x y v u Q I rx ry h
  obtain ⟨hs, q⟩ := h
  cases x with
  | non =>
    cases rx
    cases y with
    | non => cases ry; exact PySem.EqNone.ne_none_none (fin_bl I q (by simp))
    | bl j => cases ry; exact PySem.EqNone.ne_none_bool (fin_bl I q (by simp))
    | int j => obtain ⟨t', rfl⟩ := ry; exact PySem.EqNone.ne_none_int (fin_bl I q (by simp))
    | str j => obtain ⟨t', rfl⟩ := ry; exact PySem.EqNone.ne_none_str (fin_bl I q (by simp))
    | _ => exact absurd (show false = true from hs) Bool.false_ne_true
  | bl i =>
    cases rx
    cases y with
    | non => cases ry; exact PySem.EqNone.ne_bool_none (fin_bl I q (by simp))
    | bl j => cases ry; exact ne_bool (fin_bl I q (congrArg not dec_bl))
    | str j => obtain ⟨t', rfl⟩ := ry; exact PySem.EqMixed.ne_bool_str (fin_bl I q (by simp))
    | _ => exact absurd (show false = true from hs) Bool.false_ne_true
  | int i =>
    obtain ⟨t, rfl⟩ := rx
    cases y with
    | non => cases ry; exact PySem.EqNone.ne_int_none (fin_bl I q (by simp))
    | int j => obtain ⟨t', rfl⟩ := ry; exact ne_int (fin_bl I q (congrArg not dec_int))
    | str j => obtain ⟨t', rfl⟩ := ry; exact PySem.EqMixed.ne_int_str (fin_bl I q (by simp))
    | _ => exact absurd (show false = true from hs) Bool.false_ne_true
  | str i =>
    obtain ⟨t, rfl⟩ := rx
    cases y with
    | non => cases ry; exact PySem.EqNone.ne_str_none (fin_bl I q (by simp))
    | bl j => cases ry; exact PySem.EqMixed.ne_str_bool (fin_bl I q (by simp))
    | int j => obtain ⟨t', rfl⟩ := ry; exact PySem.EqMixed.ne_str_int (fin_bl I q (by simp))
    | str j => obtain ⟨t', rfl⟩ := ry; exact ne_str (fin_bl I q (congrArg not dec_str))
    | _ => exact absurd (show false = true from hs) Bool.false_ne_true
  | byt i =>
    obtain ⟨t, rfl⟩ := rx
    cases y with
    | byt j => obtain ⟨t', rfl⟩ := ry; exact PySem.W.ne_bytes (fin_bl I q (congrArg not dec_byt))
    | _ => exact absurd (show false = true from hs) Bool.false_ne_true
  | _ => cases y <;> exact absurd (show false = true from hs) Bool.false_ne_true
theorem op_lt : OpR X (compareOp .Lt) (rI0 fun i j => .bl (decide (i < j))) := opB0 fun _ _ _ _ _ _ _ q => lt_int q
theorem op_le : OpR X (compareOp .LtE) (rI0 fun i j => .bl (decide (i ≤ j))) := opB0 fun _ _ _ _ _ _ _ q => le_int q
theorem op_gt : OpR X (compareOp .Gt) (rI0 fun i j => .bl (decide (j < i))) := opB0 fun _ _ _ _ _ _ _ q => gt_int q
theorem op_ge : OpR X (compareOp .GtE) (rI0 fun i j => .bl (decide (j ≤ i))) := opB0 fun _ _ _ _ _ _ _ q => ge_int q
/-- two rules for one operation: by cases -/
theorem OpR.or {f : Value → Value → Sem Value} {r r' : R2} (h : OpR X f r) (h' : OpR X f r') : OpR X f (fun x y H Q => r x y H Q ∨ r' x y H Q) := by
  intro pins s σ H x y v u Q I rx ry q
  rcases q with q | q
  · exact h pins s σ H x y v u Q I rx ry q
  · exact h' pins s σ H x y v u Q I rx ry q
theorem nomark (b : Expr) {op : CmpOp} (h : op ≠ .In := by decide) (h2 : op ≠ .NotIn := by decide) : behindInMarks op b = false := by
  have e1 : (op == CmpOp.In) = false := by cases op <;> first | rfl | exact absurd rfl h
  have e2 : (op == CmpOp.NotIn) = false := by cases op <;> first | rfl | exact absurd rfl h2
  cases b <;> simp [behindInMarks, e1, e2]
/-- a reading of a value as a test -/
def tTest (t : TE) : TT := fun σ H Q => t σ H fun x H' => ∃ k, x = .bl k ∧ Q k H'
theorem pt_cmpR {op : CmpOp} {r : R2} (ho : OpR X (compareOp op) r) (ha : PE X a ta) (hb : PE X b tb) (hm : behindInMarks op b = false) : PT X (.Compare a [op] [b] pos) (tTest (tOp r ta tb)) := by
  intro pins s σ H Q I h
  refine wpAny_isTrue_Compare1 (thn (ha pins s σ H _ I h) fun v s1 ⟨x, H1, I1, r1, q1⟩ => thn (hb pins s1 σ H1 _ I1 q1) fun u s2 ⟨y, H2, I2, r2, q2⟩ =>
    thn (ho pins s2 σ H2 x y v u _ I2 r1 r2 q2) fun c s3 ⟨z, H3, I3, r3, k, e, q3⟩ => ?_) hm
  subst e
  cases r3
  exact wpAny_truthy_bool ⟨H3, I3, q3⟩
/-! ### truth -/
theorem line63 : (sizeLine : Nat) < 2 ^ 63 := by rw [sizeLine_eq]; decide
/-! ### strs and bytes -/
/-! ### scalar builtins, by CallR -/
theorem vals1 {x : V} {us : List Value} (r : Vals [x] us) : ∃ u, us = [u] ∧ RelV x u := by
  cases r with
  | cons r1 r2 => cases r2; exact ⟨_, rfl, r1⟩
theorem vals2 {x y : V} {us : List Value} (r : Vals [x, y] us) : ∃ u w', us = [u, w'] ∧ RelV x u ∧ RelV y w' := by
  cases r with
  | cons r1 r2 =>
    cases r2 with
    | cons r3 r4 => cases r4; exact ⟨_, _, rfl, r1, r3⟩
theorem call_max2 (hc : X.calm = true) : CallR X (.builtin "max") (fun xs H Q => ∃ i j, xs = [.int i, .int j] ∧ Q (.int (if j > i then j else i)) H) := by
  intro pins s σ H xs us Q I r h
  obtain ⟨i, j, rfl, q⟩ := h
  obtain ⟨u, w', rfl, ⟨t, rfl⟩, ⟨t', rfl⟩⟩ := vals2 r
  refine max_two_ints (I.ok.hd hc) fun h' tk k => ⟨_, H, I.kept k, ?_, q⟩
  by_cases hj : j > i
  · rw [if_pos hj, if_pos hj]; exact ⟨_, rfl⟩
  · rw [if_neg hj, if_neg hj]; exact ⟨_, rfl⟩
end
end L2
namespace L2
open PySem PySem.Spec PyProof.Rows
/-! ### an instance, its attributes a map -/
structure ObjM (h : Heap) (x dx C : Addr) (mA : Str → Option Value) : Prop where
  obj : h.get? x = some (PySem.W.instObj C dx)
  ns : h.Ns1 dx mA
  ne : dx ≠ x
theorem lookIn_ns {h : Heap} {dx : Addr} {mA : Str → Option Value} (n : h.Ns1 dx mA) : ∃ od, h.get? dx = some od ∧ ∀ name, PySem.W.lookIn name od = some (mA name) := by
  obtain ⟨o, es, ep, ho, hd, hk, _, hm⟩ := n
  refine ⟨o, ho, fun name => ?_⟩
  have e := hm name
  unfold nsFind findBy at e
  rw [← Array.find?_toList] at e
  unfold PySem.W.lookIn
  rw [hd]
  dsimp only
  split
  · rename_i y q
    rw [q] at e
    exact congrArg some e
  · rename_i q
    rw [q] at e
    have a : es.toList.any (·.refKey) = false := by
      rw [List.any_eq_false]
      intro y hy
      obtain ⟨z, t, hkey⟩ := hk y (Array.mem_toList_iff.mp hy)
      simp [DictEntry.refKey, hkey]
    have a' : ¬ es.toList.any (·.refKey) = true := by rw [a]; exact Bool.false_ne_true
    rw [if_neg a']
    exact congrArg some e
theorem ObjM.look {h : Heap} {x dx C : Addr} {mA : Str → Option Value} (I : ObjM h x dx C mA) : ∃ od, PySem.W.InstAt h x (PySem.W.instObj C dx) C (some od) ∧ ∀ name, PySem.W.lookIn name od = some (mA name) :=
  let ⟨od, ho, hl⟩ := lookIn_ns I.ns
  ⟨od, ⟨I.obj, rfl, rfl, ho⟩, hl⟩
section
variable {prog : Program} {w : World} {A : Around} {E : Value → Shared → Prop} {s : Shared} {K : PySem.W.Frag} {x dx C f : Addr} {mA : Str → Option Value} {name : Str} {v : Value}
theorem get_map {expr : Bool} {Q : Value → Shared → Prop} (X : K.In s.heap) (I : ObjM s.heap x dx C mA) (hg : PySem.W.plainGet K C name = true) (hh : PySem.W.hasDictIn K C = true)
    (ha : PySem.W.findIn K (.ref C) name = some none) (hv : mA name = some v) (hv' : PySem.W.handedIn v = true) (h : Q v { s with toks := s.toks + 1 }) :
    wpAny (model prog w) A (getAttr (.ref x) name expr) Q E s := by
  obtain ⟨od, J, hl⟩ := I.look
  exact PySem.W.get_value X J (PySem.W.plainGet_of hg).1 (PySem.W.findObj_own hh ha rfl (by rw [hl, hv])) hv' h
theorem get_meth {pl : Sem Bool} {Q : Value × List Value → Shared → Prop} (X : K.In s.heap) (I : ObjM s.heap x dx C mA) (hg : PySem.W.plainGet K C name = true)
    (hf : PySem.W.findIn K (.ref C) name = some (some (.ref f))) (ht : PySem.W.isFn K (.ref f) = true) (hv : mA name = none) (h : Q (.ref f, [.ref x]) s) :
    wpAny (model prog w) A (getMethod (.ref x) name pl) Q E s := by
  obtain ⟨od, J, hl⟩ := I.look
  exact PySem.W.method_fn X J (PySem.W.plainGet_of hg).1 (PySem.W.plainGet_of hg).2 hf (beq_iff_eq.mp ht) (by show (PySem.W.lookIn name od).map (·.isSome) = some false; rw [hl, hv]; rfl) h
theorem set_map {ns : List Str} {Q : Unit → Shared → Prop} (X : K.In s.heap) (I : ObjM s.heap x dx C mA)
    (hs : PySem.W.findIn K (.ref C) "__setattr__" = some (some (.builtin "object.__setattr__"))) (hp : PySem.W.plainOver K C = true) (ht : PySem.W.takerIn K C name = some none) (hh : PySem.W.hasDictIn K C = true)
    (hw : PySem.Within mA ns) (hsz : ns.length ≤ sizeLine)
    (h : ∀ h', ObjM h' x dx C (fun y => if y = name then some v else mA y) → Heap.SameBut dx s.heap h' → Q () { s with heap := h', toks := s.toks + 2 }) :
    wpAny (model prog w) A (setAttr (.ref x) name v) Q E s := by
  obtain ⟨od, J, hl⟩ := I.look
  refine PySem.W.set_plain X J hs (PySem.W.osa_open (s := { s with toks := s.toks + 1 }) (r := none) X J hp ht fun b => ?_)
  obtain ⟨cd, hc, hd'⟩ := PySem.W.any_some hh
  have hx : s.heap.get? x = some ⟨.ref C, some dx, .plain, #[]⟩ := I.obj
  refine wpAny_bind (wpAny_pure (wpAny_bind (wpAny_bind (wpAny_loadPart hx (wpAny_bind (PySem.W.Looks.here (s := { s with toks := s.toks + 1 }) (PySem.W.looks_clsIn X hc) ?_))))))
  rw [hd']
  refine wpAny_pure (a := some dx) (wpAny_bind (wpAny_pure (wpAny_bind ?_)))
  refine wpAny_nsSet1 (s := { s with toks := s.toks + 1 }) I.ns fun h' hn2 hs2 => ?_
  obtain ⟨oD, esD, epD, hoD, hdD, hcD⟩ := hn2.count (PySem.Within.cons name v hw)
  refine wpAny_bind (wpAny_lookBehind hoD (by rw [hdD]; exact pastItsLine_dict (Nat.le_trans hcD (by rw [List.length_cons]; omega))) ?_)
  exact wpAny_pure (h _ ⟨(hs2.2 _ (Ne.symm I.ne)).trans I.obj, hn2, I.ne⟩ hs2)
/-- C(..): the dict at the heap's end, the instance behind it; then its __init__ -/
theorem make_map {R : Result → Shared → Prop} {vs : List Value} {kw : List (Str × Value)} (X : K.In s.heap) (hm : PySem.W.makesIn K C = true)
    (hi : PySem.W.findIn K (.ref C) "__init__" = some (some (.ref f))) (hf : PySem.W.typeIn K (.ref f) = some (.type "function"))
    (h : codeAny (model prog w) (A.under (.builtin "type.__call__" ⟨.ref C :: vs, kw⟩)) (.call (.ref f) ⟨.ref (s.heap.objs.size + 1) :: vs, kw⟩) (PySem.W.InitBack (s.heap.objs.size + 1) R)
      { s with heap := (s.heap.push PySem.W.emptyDict).push (PySem.W.instObj C s.heap.objs.size) }) :
    codeAny (model prog w) A (.call (.ref C) ⟨vs, kw⟩) R s := by
  obtain ⟨hh, g, d, t, os⟩ := s
  exact PySem.W.make_core (PySem.W.makes_of X hm) (PySem.W.looks_findIn X hi) (fun self => PySem.W.bind_fn X self hf) (.inl rfl) h
end
/-! ### the attributes as a list of pairs -/
def putF (f : Str) (v : V) : List (Str × V) → List (Str × V)
  | [] => [(f, v)]
  | (g, x) :: r => if g = f then (g, v) :: r else (g, x) :: putF f v r
theorem lookup_putF (f g : Str) (v : V) : ∀ fs : List (Str × V), (putF f v fs).lookup g = if g = f then some v else fs.lookup g
  | [] => by
    show List.lookup g [(f, v)] = _
    by_cases h : g = f
    · have hb : (g == f) = true := beq_iff_eq.mpr h
      simp only [List.lookup, hb, if_pos h]
    · have hb : (g == f) = false := beq_eq_false_iff_ne.mpr h
      simp only [List.lookup, hb, if_neg h]
  | (k, x) :: r => by
    have ih := lookup_putF f g v r
    rw [show putF f v ((k, x) :: r) = (if k = f then (k, v) :: r else (k, x) :: putF f v r) from rfl]
    by_cases hk : k = f
    · rw [if_pos hk]
      by_cases h : g = k
      · have hb : (g == k) = true := beq_iff_eq.mpr h
        simp only [List.lookup, hb, if_pos (h.trans hk)]
      · have hb : (g == k) = false := beq_eq_false_iff_ne.mpr h
        simp only [List.lookup, hb, if_neg (fun e : g = f => h (e.trans hk.symm))]
    · rw [if_neg hk]
      by_cases h : g = k
      · have hb : (g == k) = true := beq_iff_eq.mpr h
        simp only [List.lookup, hb, if_neg (fun e : g = f => hk (h.symm.trans e))]
      · have hb : (g == k) = false := beq_eq_false_iff_ne.mpr h
        simp only [List.lookup, hb]
        exact ih
theorem keys_putF (f : Str) (v : V) : ∀ fs : List (Str × V), f ∈ (putF f v fs).map (·.1) ∧ ∀ g, g ∈ fs.map (·.1) → g ∈ (putF f v fs).map (·.1)
  | [] => ⟨by simp [putF], fun g h => by simp at h⟩
  | (k, x) :: r => by
    obtain ⟨i1, i2⟩ := keys_putF f v r
    rw [show putF f v ((k, x) :: r) = (if k = f then (k, v) :: r else (k, x) :: putF f v r) from rfl]
    by_cases hk : k = f
    · rw [if_pos hk]
      subst hk
      exact ⟨by simp, fun g h => by simpa using h⟩
    · rw [if_neg hk]
      refine ⟨?_, fun g h => ?_⟩
      · rw [List.map_cons]
        exact List.mem_cons_of_mem _ i1
      · rw [List.map_cons] at h ⊢
        rcases List.mem_cons.mp h with e | e
        · exact List.mem_cons.mpr (.inl e)
        · exact List.mem_cons_of_mem _ (i2 g e)
theorem length_putF (f : Str) (v : V) : ∀ fs : List (Str × V), (putF f v fs).length ≤ fs.length + 1
  | [] => by simp [putF]
  | (k, x) :: r => by
    have ih := length_putF f v r
    rw [show putF f v ((k, x) :: r) = (if k = f then (k, v) :: r else (k, x) :: putF f v r) from rfl]
    by_cases hk : k = f
    · rw [if_pos hk, List.length_cons, List.length_cons]; omega
    · rw [if_neg hk, List.length_cons, List.length_cons]; omega
theorem RelO.some_of {v : V} {o : Option Value} (r : RelO (some v) o) : ∃ u, o = some u ∧ RelV v u := by
  cases o with
  | none => exact (show False from r).elim
  | some u => exact ⟨u, rfl, r⟩
theorem RelO.none_of {o : Option Value} (r : RelO none o) : o = none := by
  cases o with
  | none => rfl
  | some u => exact (show False from r).elim
theorem handed_of {v : V} {u : Value} (r : RelV v u) : PySem.W.handedIn u = true := by
  cases v with
  | non => cases (show u = Value.none from r); rfl
  | bl b => cases (show u = Value.bool b from r); rfl
  | int i => obtain ⟨t, e⟩ := (show ∃ t, u = Value.int i t from r); cases e; rfl
  | str x => obtain ⟨t, e⟩ := (show ∃ t, u = Value.str x t from r); cases e; rfl
  | byt b => obtain ⟨t, e⟩ := (show ∃ t, u = Value.bytes b t from r); cases e; rfl
  | flt b => obtain ⟨t, e⟩ := (show ∃ t, u = Value.float b t from r); cases e; rfl
  | ref a => cases (show u = Value.ref a from r); rfl
  | ty n => cases (show u = Value.type n from r); rfl
section
variable {P : Program} {w : World} {H H' : Hp} {h h' : Heap} {a C dx : Addr} {fs fs' : List (Str × V)}
theorem ins_get (hok : HOk P w H h) (e : H a = some (.ins C dx fs)) : ∃ mA, ObjM h a dx C mA ∧ (∀ f, RelO (fs.lookup f) (mA f)) ∧ PySem.Within mA (fs.map (·.1)) ∧ fs.length ≤ 1000 ∧ H dx = some (.own a) := by
  obtain ⟨d, z, ne, ob, mA, n, r, q⟩ := (show ObjOk P w H h a (.ins C dx fs) from hok a _ e)
  exact ⟨mA, ⟨ob, n, ne⟩, r, q, z, d⟩
end
/-! ### what of the text a class must have -/
structure Cls (K : PySem.W.Frag) (C : Addr) : Prop where
  pg : PySem.W.plainGet K C Str.empty = true
  hd : PySem.W.hasDictIn K C = true
  po : PySem.W.plainOver K C = true
  sa : PySem.W.findIn K (.ref C) "__setattr__" = some (some (.builtin "object.__setattr__"))
theorem Cls.get {K : PySem.W.Frag} {C : Addr} (c : Cls K C) (f : Str) : PySem.W.plainGet K C f = true := c.pg
/-- no class of it has the name -/
def NoAttr (K : PySem.W.Frag) (C : Addr) (f : Str) : Prop := PySem.W.findIn K (.ref C) f = some none
theorem NoAttr.taker {K : PySem.W.Frag} {C : Addr} {f : Str} (n : NoAttr K C f) : PySem.W.takerIn K C f = some none := by
  unfold PySem.W.takerIn
  rw [show PySem.W.findIn K (.ref C) f = some none from n]
  rfl
/-- a method: a plain def of the class or of one above it -/
structure Meth (K : PySem.W.Frag) (C : Addr) (m : Str) (f : Addr) : Prop where
  at_ : PySem.W.findIn K (.ref C) m = some (some (.ref f))
  fn : PySem.W.isFn K (.ref f) = true
  kp : PySem.W.keepIn K (.ref f) = true
section
variable {X : Cx} {pins : List (Addr × Obj)} {σ : St} {H : Hp} {s : Shared} {a C dx : Addr} {fs : List (Str × V)} {f : Str} {v : V} {A : Around} {E : Value → Shared → Prop}
theorem getattr_ok {b : Bool} {Q : Value → Shared → Prop} (I : Inv X pins σ H s) (e : H a = some (.ins C dx fs)) (c : Cls X.K C) (n : NoAttr X.K C f) (l : fs.lookup f = some v)
    (h : ∀ u s', Inv X pins σ H s' → RelV v u → Q u s') : wpAny (model X.prog X.w) A (getAttr (.ref a) f b) Q E s := by
  obtain ⟨mA, O, r, _, _, _⟩ := ins_get I.hok e
  obtain ⟨u, hu, ru⟩ := RelO.some_of (v := v) (o := mA f) (by rw [← l]; exact r f)
  exact get_map I.kIn O (c.get f) c.hd n hu (handed_of ru) (h u _ (I.tok _) ru)
theorem getmeth_ok {m : Str} {g : Addr} {pl : Sem Bool} {Q : Value × List Value → Shared → Prop} (I : Inv X pins σ H s) (e : H a = some (.ins C dx fs)) (c : Cls X.K C) (k : Meth X.K C m g) (l : fs.lookup m = none)
    (h : Q (.ref g, [.ref a]) s) : wpAny (model X.prog X.w) A (getMethod (.ref a) m pl) Q E s := by
  obtain ⟨mA, O, r, _, _, _⟩ := ins_get I.hok e
  have hn : mA m = none := RelO.none_of (by rw [← l]; exact r m)
  exact get_meth I.kIn O (c.get m) k.at_ k.fn hn h
theorem setattr_ok {y : V} {u : Value} {Q : Unit → Shared → Prop} (I : Inv X pins σ H s) (e : H a = some (.ins C dx fs)) (c : Cls X.K C) (n : NoAttr X.K C f) (hl : fs.length < 1000) (ry : RelV y u)
    (h : ∀ s', Inv X pins σ (upd H a (.ins C dx (putF f y fs))) s' → Q () s') : wpAny (model X.prog X.w) A (setAttr (.ref a) f u) Q E s := by
  obtain ⟨mA, O, r, wi, _, ho⟩ := ins_get I.hok e
  have hz : (fs.map (·.1)).length ≤ sizeLine := by rw [List.length_map, sizeLine_eq]; omega
  refine set_map I.kIn O c.sa c.po n.taker c.hd wi hz fun h' O' sb => h _ ?_
  have hd : ∃ o, h'.get? dx = some o := let ⟨o, _, _, e', _⟩ := O'.ns; ⟨o, e'⟩
  refine I.write (x := a) (e := dx) (by rw [e]; exact True.intro) (.inr ho) (fun b q hb z => (sb.2 b hb).trans z) hd ?_
  refine ⟨by rw [upd_ne O.ne]; exact ho, ?_, O.ne, O'.obj, _, O'.ns, fun g => ?_, fun g hg => ?_⟩
  · have := length_putF f y fs; omega
  · show RelO ((putF f y fs).lookup g) (if g = f then some u else mA g)
    rw [lookup_putF]
    by_cases q : g = f
    · rw [if_pos q, if_pos q]; exact ry
    · rw [if_neg q, if_neg q]; exact r g
  · by_cases q : g = f
    · rw [q]; exact (keys_putF f y fs).1
    · refine (keys_putF f y fs).2 g (wi g fun z => hg ?_)
      show (if g = f then some u else mA g) = none
      rw [if_neg q]; exact z
/-- a new instance, tracked, without attributes -/
theorem Inv.made (I : Inv X pins σ H s) : Inv X pins σ (upd (upd H s.heap.objs.size (.own (s.heap.objs.size + 1))) (s.heap.objs.size + 1) (.ins C s.heap.objs.size []))
    { s with heap := (s.heap.push PySem.W.emptyDict).push (PySem.W.instObj C s.heap.objs.size) } := by
  have e1 : (s.heap.push PySem.W.emptyDict).get? s.heap.objs.size = some PySem.W.emptyDict := Heap.get?_push_size s.heap rfl
  have e2 : ((s.heap.push PySem.W.emptyDict).push (PySem.W.instObj C s.heap.objs.size)).get? (s.heap.objs.size + 1) = some (PySem.W.instObj C s.heap.objs.size) := by
    have := Heap.get?_push_size (s.heap.push PySem.W.emptyDict) (o := PySem.W.instObj C s.heap.objs.size) rfl
    rwa [Heap.size_push] at this
  have e3 : (s.heap.push PySem.W.emptyDict).Ns s.heap.objs.size (fun _ => none) := ⟨PySem.W.emptyDict, #[], _, e1, rfl, (fun e he => absurd he (by simp)), fun _ => rfl⟩
  have I1 := I.laid (a := s.heap.objs.size) (o := .own (s.heap.objs.size + 1)) (h' := s.heap.push PySem.W.emptyDict) (t' := s.toks) (fun b u q => Heap.get?_push_of_some _ q) (Nat.le_refl _) ⟨_, e1⟩
  refine I1.laid (a := s.heap.objs.size + 1) (o := .ins C s.heap.objs.size []) (t' := s.toks) (fun b u q => Heap.get?_push_of_some _ q) (Nat.le_of_eq (Heap.size_push _ _)) ?_
  have ne : s.heap.objs.size ≠ s.heap.objs.size + 1 := Nat.ne_of_lt (Nat.lt_succ_self _)
  refine ⟨by rw [upd_ne ne, upd_same], Nat.zero_le _, ne, e2, fun _ => none, (Heap.Ns1.of_empty e3).at fun o q => Heap.get?_push_of_some _ q, fun _ => True.intro, fun y hy => absurd rfl hy⟩
/-- e.f where nothing but the object is asked: through attributeBase (super) and the last hold -/
theorem attr_of {prog : Program} {w : World} {env : Env} {e : Expr} {f : Str} {pos : Pos} {s : Shared} {Q : Value → Shared → Prop} (hb : attributeBase e f env (eval e env) = eval e env)
    (h : wpAny (model prog w) A (eval e env) (fun o s₁ => wpAny (model prog w) A (getAttr o f true) Q E s₁) E s) : wpAny (model prog w) A (eval (.Attribute e f pos) env) Q E s :=
  Attribute_any_ h (by rw [arm_eval_Attribute, hb])
end
/-! ### readings and rules -/
/-- e.f, an attribute of the instance -/
def tFld (K : PySem.W.Frag) (ta : TE) (f : Str) : TE := fun σ H Q => ta σ H fun x H1 => ∃ a C dx fs v, x = .ref a ∧ H1 a = some (.ins C dx fs) ∧ Cls K C ∧ NoAttr K C f ∧ fs.lookup f = some v ∧ Q v H1
/-- e.f = value -/
def sFld (K : PySem.W.Frag) (ta tv : TE) (f : Str) : TS := fun D σ H => tv σ H fun y H1 => ta σ H1 fun x H2 => ∃ a C dx fs, x = .ref a ∧ H2 a = some (.ins C dx fs) ∧ Cls K C ∧ NoAttr K C f ∧ fs.length < 1000 ∧
  D.nx σ (upd H2 a (.ins C dx (putF f y fs)))
section
variable {X : Cx} {o e value : Expr} {f : Str} {pos pos' tpos : Pos} {ta tv : TE}
theorem pe_fld (he : PE X e ta) (hb : attributeBase e f X.env (eval e X.env) = eval e X.env) : PE X (.Attribute e f pos) (tFld X.K ta f) := by
  intro pins s σ H Q I h
  refine attr_of hb (thn (he pins s σ H _ I h) fun u s1 ⟨x, H1, I1, rx, a, C, dx, fs, v, ex, ea, c, n, l, q⟩ => ?_)
  subst ex
  obtain rfl : u = Value.ref a := rx
  exact getattr_ok I1 ea c n l fun u' s2 I2 ru => ⟨v, H1, I2, ru, q⟩
theorem ps_fld (ha : PE X o ta) (hv : PE X value tv) (hs : swapsWith value (some (.Attribute o f pos')) pos.line X.env = pure false) : PS X (.Assign [.Attribute o f pos'] value pos) (sFld X.K ta tv f) := by
  intro pins s σ H D I h
  refine plainObj_wpAny_Assign_Attribute (thn (hv pins s σ H _ I h) fun u s1 ⟨y, H1, I1, ry, q⟩ => thn (ha pins s1 σ H1 _ I1 q) fun ov s2 ⟨x, H2, I2, rx, a, C, dx, fs, ex, ea, c, n, l, q2⟩ => ?_) hs
  subst ex
  obtain rfl : ov = Value.ref a := rx
  exact setattr_ok I2 ea c n l ry fun s3 I3 => ⟨σ, _, I3, q2⟩
/-- what is between an instance and its method: the tree of a method call -/
theorem methcall_of {pl : Sem Bool} {m : Str} {apos : Pos} {args : List Expr} {pins : List (Addr × Obj)} {s : Shared} {σ : St} {H : Hp} {Q : Value → Shared → Prop} {te : TE} (he : PE X e te) (I : Inv X pins σ H s)
    (h : te σ H fun x H1 => ∃ a C dx fs g, x = .ref a ∧ H1 a = some (.ins C dx fs) ∧ Cls X.K C ∧ Meth X.K C m g ∧ fs.lookup m = none ∧
      ∀ s1, Inv X pins σ H1 s1 → wpAny (model X.prog X.w) X.A (callWith pos (.ref g) [.ref a] (backTo pos (starEach args X.env)) (backToKw pos (keywordEach [] X.env))) Q X.xe s1)
    (ht : eval (.Call (.Attribute e m apos) args [] pos) X.env = (do
      let ov ← eval e X.env
      standAt apos.atName
      let (f, first) ← holding [ov] (getMethod ov m pl)
      callWith pos f first (backTo pos (starEach args X.env)) (backToKw pos (keywordEach [] X.env)))) :
    wpAny (model X.prog X.w) X.A (eval (.Call (.Attribute e m apos) args [] pos) X.env) Q X.xe s := by
  refine PySem.W.methodCall_KW (pl := pl) (thn (he pins s σ H _ I h) fun u s1 ⟨x, H1, I1, rx, a, C, dx, fs, g, ex, ea, c, k, l, q⟩ => ?_) ht
  subst ex
  obtain rfl : u = Value.ref a := rx
  exact getmeth_ok I1 ea c k l (q s1 I1)
end
/-! ### isinstance -/
section
variable {X : Cx} {pins : List (Addr × Obj)} {σ : St} {H : Hp} {s : Shared} {A : Around} {E : Value → Shared → Prop} {Q : Value → Shared → Prop} {c : Value} {b : Bool}
end
end L2
namespace L2
open PySem PySem.Spec PyProof.Rows
/-! ### room -/
structure Room (k : Nat) (A : Around) : Prop where
  hd : A.handled = none
  dp : A.depth + 3 * k + 5 < recursionLimit
  un : A.units + 16 * k + 200 < cLine
theorem Room.mono {j k : Nat} {A : Around} (r : Room k A) (h : j ≤ k) : Room j A := ⟨r.hd, by have := r.dp; omega, by have := r.un; omega⟩
theorem Room.deeper {k : Nat} {A : Around} (r : Room (k + 1) A) (env : Env) : Room k (A.deeper env) :=
  ⟨r.hd, by have := r.dp; show A.depth + 1 + 3 * k + 5 < _; omega, by have := r.un; show A.units + 3 + 16 * k + 200 < _; omega⟩
theorem Room.in1 {k : Nat} {A : Around} (r : Room (k + 1) A) : Room k A.in1 :=
  ⟨r.hd, by have := r.dp; show A.depth + 3 * k + 5 < _; omega, by have := r.un; show A.units + 1 + 16 * k + 200 < _; omega⟩
theorem make_depth {A : Around} {C : Addr} {us : List Value} {kw : List (Str × Value)} : (A.under (.builtin "type.__call__" ⟨.ref C :: us, kw⟩)).depth = A.depth + 1 := by
  first | rfl | simp [Around.under, Code.weight, Code.isCreation, Code.isGuard, Code.isCaller, Code.frames, Code.isFrame, guardIds]
theorem make_units {A : Around} {C : Addr} {us : List Value} {kw : List (Str × Value)} : (A.under (.builtin "type.__call__" ⟨.ref C :: us, kw⟩)).units = A.units + 1 := by
  first | rfl | simp [Around.under, Code.cUnits, Code.frames, Code.isFrame]
theorem Room.make {k : Nat} {A : Around} (r : Room (k + 1) A) (C : Addr) (us : List Value) (kw : List (Str × Value)) : Room k (A.under (.builtin "type.__call__" ⟨.ref C :: us, kw⟩)) :=
  ⟨r.hd, by have := r.dp; rw [make_depth]; omega, by have := r.un; rw [make_units]; omega⟩
theorem Room.depth {k : Nat} {A : Around} (r : Room k A) : A.depth < recursionLimit := by have := r.dp; omega
theorem Room.units {k : Nat} {A : Around} (r : Room k A) : A.units + 64 < cLine := by have := r.un; omega
/-! ### argument lists and displays -/
def tNil : TA := fun _ H Q => Q [] H
def tCons (ta : TE) (tr : TA) : TA := fun σ H Q => ta σ H fun x H1 => tr σ H1 fun xs H2 => Q (x :: xs) H2
section
variable {X : Cx} {e : Expr} {es : List Expr} {te : TE} {t : TA} {pos : Pos}
theorem pa_nil : PA X [] tNil := fun _ _ _ _ H Q I h => Calls.spliced_nil ⟨[], H, I, .nil, h⟩
theorem pa_cons (ha : PE X e te) (hr : PA X es t) (hs : starEach (e :: es) X.env = (false, eval e X.env) :: starEach es X.env := by rfl) : PA X (e :: es) (tCons te t) := by
  intro pos pins s σ H Q I h
  rw [hs]
  show wpAny _ _ (spliced ((false, eval e X.env) :: backTo pos (starEach es X.env))) _ _ s
  refine Calls.spliced_cons (thn (ha pins s σ H _ I h) fun u s1 ⟨x, H1, I1, r1, q1⟩ => ?_)
  exact thn (hr pos pins s1 σ H1 _ I1 q1) fun us s2 ⟨xs, H2, I2, r2, q2⟩ => ⟨x :: xs, H2, I2, .cons r1 r2, q2⟩
/-- a tuple, a list of written items -/
def tTup (t : TA) : TE := fun σ H Q => t σ H fun xs H1 => xs.length ≤ sizeLine ∧ ∀ p, H1 p = none → Q (.ref p) (upd H1 p (.tup xs))
def tLst (t : TA) : TE := fun σ H Q => t σ H fun xs H1 => xs.length ≤ sizeLine ∧ ∀ p, H1 p = none → Q (.ref p) (upd H1 p (.lst xs))
theorem pe_tup {x1} (h : PA X es t) : PE X (.Tuple es x1 pos) (tTup t) := by
  intro pins s σ H Q I hq
  refine wpAny_Tuple_spliced (thn (h pos pins s σ H _ I hq) fun us s1 ⟨xs, H1, I1, r, z, q⟩ => ⟨by rw [← r.length]; exact z, ?_⟩)
  have hf : H1 s1.heap.objs.size = none := I1.hok.fresh (Nat.le_refl _)
  refine ⟨.ref s1.heap.objs.size, upd H1 s1.heap.objs.size (.tup xs), I1.laid (t' := s1.toks) (fun b u e => Heap.get?_push_of_some _ e) (Nat.le_refl _) ?_, rfl, q _ hf⟩
  exact ⟨z, us, r, ⟨_, Heap.get?_push_size _ rfl, rfl, _, rfl⟩⟩
theorem pe_lst (h : PA X es t) : PE X (.List es pos) (tLst t) := by
  intro pins s σ H Q I hq
  refine wpAny_List_spliced (thn (h pos pins s σ H _ I hq) fun us s1 ⟨xs, H1, I1, r, z, q⟩ => ⟨by rw [← r.length]; exact z, ?_⟩)
  have hf : H1 s1.heap.objs.size = none := I1.hok.fresh (Nat.le_refl _)
  refine ⟨.ref s1.heap.objs.size, upd H1 s1.heap.objs.size (.lst xs), I1.laid (t' := s1.toks) (fun b u e => Heap.get?_push_of_some _ e) (Nat.le_refl _) ?_, rfl, q _ hf⟩
  exact ⟨z, us, 0, r, Heap.get?_push_size _ rfl⟩
end
/-! ### what a def promises -/
/-- a def's promise: the bound arguments in the parameters' order, the heap, the wanted end, the wanted exception -/
abbrev Sp := List V → Hp → VK → XK → Prop
/-- how an exception lies behind a call (file 08 gives it): the callers' frames, abstract heap and state ahead of the call, the wish, the exception, the state -/
abbrev CXT := List Env → Hp → Shared → XK → Value → Shared → Prop
/-- the state at a call -/
structure Env0 (P : Program) (w : World) (K : PySem.W.Frag) (mg : Str → Option Value) (base : Heap) (A : Around) (outer : List Env) (s : Shared) (H : Hp) : Prop where
  frames : A.frames = some outer
  mod : Mod K mg base
  bs : ∀ b o, base.get? b = some o → s.heap.get? b = some o ∧ H b = none
  bsz : base.objs.size ≤ s.heap.objs.size
  funs : s.heap.FunFrames base outer
  frf : ∀ b ∈ frs outer, H b = none
  hok : HOk P w H s.heap
  bare : AllBare s.gens
/-- a call's end -/
def CE (outer : List Env) (P : Program) (w : World) (H : Hp) (s : Shared) (Q : VK) (u : Value) (s' : Shared) : Prop :=
  ∃ v H', s'.os = s.os ∧ AllBare s'.gens ∧ Un (frs outer) [] H H' s.heap s'.heap ∧ HOk P w H' s'.heap ∧ RelV v u ∧ Q v H'
def CR (CX : CXT) (outer : List Env) (P : Program) (w : World) (H : Hp) (s : Shared) (Q : VK) (E : XK) (r : Result) (s' : Shared) : Prop :=
  match r with
  | .ok (.ret u) => CE outer P w H s Q u s'
  | .ok _ => False
  | .error e => CX outer H s E e s'
structure FnOk (P : Program) (w : World) (K : PySem.W.Frag) (mg : Str → Option Value) (base : Heap) (CX : CXT) (k : Nat) (f : Addr) (fd : FuncData) (ps : List Str) (sp : Sp) : Prop where
  len : ∀ vs H Q E, sp vs H Q E → vs.length = ps.length
  run : ∀ (A : Around) (outer : List Env) (s : Shared) (H : Hp) (args : Args) (us : List Value) (vs : List V) (Q : VK) (E : XK), Room k A → Env0 P w K mg base A outer s H → BindsTo s fd args (ps.zip us) → Vals vs us → sp vs H Q E →
    codeAny (model P w) A (.call (.ref f) args) (CR CX outer P w H s Q E) s
theorem FnOk.mono {P : Program} {w : World} {K : PySem.W.Frag} {mg : Str → Option Value} {base : Heap} {CX : CXT} {j k : Nat} {f : Addr} {fd : FuncData} {ps : List Str} {sp : Sp} (F : FnOk P w K mg base CX j f fd ps sp) (h : j ≤ k) :
    FnOk P w K mg base CX k f fd ps sp := ⟨F.len, fun A outer s H args us vs Q E hr => F.run A outer s H args us vs Q E (hr.mono h)⟩
/-- a weaker promise -/
theorem FnOk.imp {P : Program} {w : World} {K : PySem.W.Frag} {mg : Str → Option Value} {base : Heap} {CX : CXT} {k : Nat} {f : Addr} {fd : FuncData} {ps : List Str} {sp sp' : Sp} (F : FnOk P w K mg base CX k f fd ps sp)
    (h : ∀ vs H Q E, sp' vs H Q E → sp vs H Q E) : FnOk P w K mg base CX k f fd ps sp' :=
  ⟨fun vs H Q E q => F.len vs H Q E (h _ _ _ _ q), fun A outer s H args us vs Q E hr he hb hv hs => F.run A outer s H args us vs Q E hr he hb hv (h _ _ _ _ hs)⟩
theorem Env0.make {P : Program} {w : World} {K : PySem.W.Frag} {mg : Str → Option Value} {base : Heap} {A : Around} {outer : List Env} {s : Shared} {H : Hp} (e : Env0 P w K mg base A outer s H) (C : Addr) (us : List Value) (kw : List (Str × Value)) :
    Env0 P w K mg base (A.under (.builtin "type.__call__" ⟨.ref C :: us, kw⟩)) outer s H := ⟨by first | exact e.frames | (simpa [Around.under, Code.envs, Code.isFrame, pushEnvs] using e.frames), e.mod, e.bs, e.bsz, e.funs, e.frf, e.hok, e.bare⟩
theorem Env0.in1 {P : Program} {w : World} {K : PySem.W.Frag} {mg : Str → Option Value} {base : Heap} {A : Around} {outer : List Env} {s : Shared} {H : Hp} (e : Env0 P w K mg base A outer s H) :
    Env0 P w K mg base A.in1 outer s H := ⟨e.frames, e.mod, e.bs, e.bsz, e.funs, e.frf, e.hok, e.bare⟩
section
variable {X : Cx} {pins : List (Addr × Obj)} {σ : St} {H : Hp} {s s' : Shared}
/-- from a body: what a callee wants -/
theorem Inv.env0 (I : Inv X pins σ H s) : Env0 X.prog X.w X.K X.mg X.base X.A X.stack s H :=
  ⟨I.ok.frames, I.ok.mod, I.bs, Nat.le_trans I.ok.bsz I.sz, I.stack, I.stkFree, I.hok, I.bare⟩
/-- behind a call -/
theorem Inv.after {Q : VK} {u : Value} (I : Inv X pins σ H s) (h : CE X.stack X.prog X.w H s Q u s') : EP X pins σ Q u s' := by
  obtain ⟨v, H', os, bare, un, hok, r, q⟩ := h
  obtain ⟨hh, g, d, t, os'⟩ := s'
  obtain rfl : os' = s.os := os
  exact ⟨v, H', I.call (h' := hh) (g' := g) (d' := d) (t' := t) (ch := []) un hok bare (fun b z => absurd z (by simp)), r, q⟩
end
/-! ### calls -/
/-- f(..): the written arguments, then the defaults dvs; E: what is wanted of an exception -/
def tCall (sp : Sp) (dvs : List V) (E : XK) (t : TA) : TE := fun σ H Q => t σ H fun vs H1 => sp (vs ++ dvs) H1 Q E
/-- o.m(..) of an instance of the class at C -/
def tMeth (C : Addr) (m : Str) (sp : Sp) (dvs : List V) (E : XK) (ta : TE) (t : TA) : TE := fun σ H Q => ta σ H fun x H1 => ∃ a dx fs, x = .ref a ∧ H1 a = some (.ins C dx fs) ∧ fs.lookup m = none ∧
  t σ H1 fun vs H2 => sp (x :: (vs ++ dvs)) H2 Q E
/-- C(..): a new instance and its dict, then __init__ -/
def tMake (C : Addr) (sp : Sp) (dvs : List V) (E : XK) (t : TA) : TE := fun σ H Q => t σ H fun vs H1 => ∀ x dx, H1 x = none → H1 dx = none → dx ≠ x →
  sp (.ref x :: (vs ++ dvs)) (upd (upd H1 dx (.own x)) x (.ins C dx [])) (fun v H2 => v = .non ∧ Q (.ref x) H2) E
/-- how the parameters are bound: us the positional arguments, kw the keywords' values by name, ds the defaults that fill up -/
def Binds (K : PySem.W.Frag) (fd : FuncData) (ps : List Str) (ds : List Value) : Prop :=
  ∀ (s : Shared) (us : List Value), K.In s.heap → (us ++ ds).length = ps.length → BindsTo s fd ⟨us, []⟩ (ps.zip (us ++ ds))
/-- every parameter is given -/
theorem Binds.all {K : PySem.W.Frag} {fd : FuncData} {ps : List Str} (h : ∀ us : List Value, us.length = ps.length → bindArgs fd ⟨us, []⟩ = pure (ps.zip us)) : Binds K fd ps [] := fun s us _ hl => by
  rw [List.append_nil] at hl ⊢
  exact .of_eq (h us hl)
/-- an exception of a callee reaches what this body wants of exceptions -/
def Passes (CX : CXT) (X : Cx) (E : XK) : Prop := ∀ (pins : List (Addr × Obj)) (σ : St) (H : Hp) (s : Shared) (e : Value) (s' : Shared), Inv X pins σ H s → CX X.stack H s E e s' → X.xe e s'
section
variable {X : Cx} {CX : CXT} {k : Nat} {f C : Addr} {fd : FuncData} {ps : List Str} {sp : Sp} {dvs : List V} {ds : List Value} {E : XK} {x m : Str} {p pos apos : Pos} {e o : Expr} {es : List Expr} {ta : TE} {t : TA}
/-- the callee runs -/
theorem run_fn {pins : List (Addr × Obj)} {σ : St} {H : Hp} {s : Shared} {Q : VK} {us : List Value} {vs : List V} (F : FnOk X.prog X.w X.K X.mg X.base CX k f fd ps sp) (hr : Room k X.A) (hb : Binds X.K fd ps ds) (hd : Vals dvs ds) (hx : Passes CX X E)
    (I : Inv X pins σ H s) (r : Vals vs us) (h : sp (vs ++ dvs) H Q E) : wpAny (model X.prog X.w) X.A (call (.ref f) us) (EP X pins σ Q) X.xe s := by
  have r2 : Vals (vs ++ dvs) (us ++ ds) := r.append hd
  have hl : (us ++ ds).length = ps.length := by rw [← r2.length]; exact F.len _ _ _ _ h
  refine wpAny_call (codeAny_mono (F.run X.A X.stack s H ⟨us, []⟩ (us ++ ds) (vs ++ dvs) Q E hr I.env0 (hb s us I.kIn hl) r2 h) fun r s' hq => ?_)
  cases r with
  | error e => exact hx pins σ H s e s' I hq
  | ok fl =>
    cases fl with
    | ret u => exact I.after hq
    | next => exact False.elim hq
    | brk => exact False.elim hq
    | cont => exact False.elim hq
theorem pe_call (F : FnOk X.prog X.w X.K X.mg X.base CX k f fd ps sp) (hr : Room k X.A) (hg : Gl X x) (hm : X.mg x = some (.ref f)) (hk : PySem.W.keepIn X.K (.ref f) = true) (hb : Binds X.K fd ps ds) (hd : Vals dvs ds) (hx : Passes CX X E)
    (ha : PA X (e :: es) t) (hdb : (x == ("__debug__" : Str)) = false := by decide) (he : starEach (e :: es) X.env = (false, eval e X.env) :: starEach es X.env := by rfl) (hpl : (backTo pos (starEach es X.env)).any (·.1) = false := by rfl) :
    PE X (.Call (.Name x p) (e :: es) [] pos) (tCall sp dvs E t) := by
  intro pins s σ H Q I h
  refine wpAny_Call_Name_kw (ld_glob I hg hm ?_ hdb)
  refine PySem.W.callWith_K (h₀ := X.base) I.ok.mod.kin hk (thn (ha pos pins s σ H _ I h) fun us s1 ⟨vs, H1, I1, r, q⟩ => ⟨I1.kIn, ?_⟩) he hpl
  exact run_fn F hr hb hd hx I1 r q
/-- o.m(e, ..) -/
theorem pe_meth {pl : Sem Bool} (he : PE X o ta) (c : Cls X.K C) (hm : Meth X.K C m f) (F : FnOk X.prog X.w X.K X.mg X.base CX k f fd ps sp) (hr : Room k X.A) (hb : Binds X.K fd ps ds) (hd : Vals dvs ds) (hx : Passes CX X E) (ha : PA X (e :: es) t)
    (hst : starEach (e :: es) X.env = (false, eval e X.env) :: starEach es X.env := by rfl) (hpl : (backTo pos (starEach es X.env)).any (·.1) = false := by rfl)
    (ht : eval (.Call (.Attribute o m apos) (e :: es) [] pos) X.env = (do
      let ov ← eval o X.env
      standAt apos.atName
      let (f, first) ← holding [ov] (getMethod ov m pl)
      callWith pos f first (backTo pos (starEach (e :: es) X.env)) (backToKw pos (keywordEach [] X.env))) := by rfl) :
    PE X (.Call (.Attribute o m apos) (e :: es) [] pos) (tMeth C m sp dvs E ta t) := by
  intro pins s σ H Q I h
  refine PySem.W.methodCall_KW (pl := pl) (thn (he pins s σ H _ I h) fun u s1 ⟨x, H1, I1, rx, a, dx, fs, ex, ea, l, q⟩ => ?_) ht
  subst ex
  obtain rfl : u = Value.ref a := rx
  refine getmeth_ok I1 ea c hm l ?_
  refine PySem.W.callWith_K (first := [.ref a]) (h₀ := X.base) I.ok.mod.kin hm.kp (thn (ha pos pins s1 σ H1 _ I1 q) fun us s2 ⟨vs, H2, I2, r, q2⟩ => ⟨I2.kIn, ?_⟩) hst hpl
  exact run_fn (us := .ref a :: us) (vs := .ref a :: vs) F hr hb hd hx I2 (.cons rfl r) q2
/-- o.m() -/
theorem pe_meth0 {pl : Sem Bool} (he : PE X o ta) (c : Cls X.K C) (hm : Meth X.K C m f) (F : FnOk X.prog X.w X.K X.mg X.base CX k f fd ps sp) (hr : Room k X.A) (hb : Binds X.K fd ps ds) (hd : Vals dvs ds) (hx : Passes CX X E)
    (ht : eval (.Call (.Attribute o m apos) [] [] pos) X.env = (do
      let ov ← eval o X.env
      standAt apos.atName
      let (f, first) ← holding [ov] (getMethod ov m pl)
      callWith pos f first (backTo pos (starEach [] X.env)) (backToKw pos (keywordEach [] X.env))) := by rfl) :
    PE X (.Call (.Attribute o m apos) [] [] pos) (tMeth C m sp dvs E ta tNil) := by
  intro pins s σ H Q I h
  refine PySem.W.methodCall_KW (pl := pl) (thn (he pins s σ H _ I h) fun u s1 ⟨x, H1, I1, rx, a, dx, fs, ex, ea, l, q⟩ => ?_) ht
  subst ex
  obtain rfl : u = Value.ref a := rx
  refine getmeth_ok I1 ea c hm l ?_
  exact PySem.W.callWith_K0 (first := [.ref a]) I1.kIn hm.kp (run_fn (us := [.ref a]) (vs := [.ref a]) F hr hb hd hx I1 (.cons rfl .nil) q)
/-- what a class must have to be made -/
structure Mk (K : PySem.W.Frag) (C f : Addr) : Prop where
  makes : PySem.W.makesIn K C = true
  init : PySem.W.findIn K (.ref C) "__init__" = some (some (.ref f))
  fn : PySem.W.isFn K (.ref f) = true
  kp : PySem.W.keepIn K (.ref C) = true
theorem run_make {pins : List (Addr × Obj)} {σ : St} {H : Hp} {s : Shared} {Q : VK} {us : List Value} {vs : List V} (M : Mk X.K C f) (F : FnOk X.prog X.w X.K X.mg X.base CX k f fd ps sp) (hr : Room (k + 1) X.A) (hb : Binds X.K fd ps ds) (hd : Vals dvs ds)
    (hx : Passes CX X E) (I : Inv X pins σ H s) (r : Vals vs us)
    (h : ∀ x dx, H x = none → H dx = none → dx ≠ x → sp (.ref x :: (vs ++ dvs)) (upd (upd H dx (.own x)) x (.ins C dx [])) (fun v H2 => v = .non ∧ Q (.ref x) H2) E) :
    wpAny (model X.prog X.w) X.A (call (.ref C) us) (EP X pins σ Q) X.xe s := by
  have hq := h (s.heap.objs.size + 1) s.heap.objs.size (I.hok.fresh (Nat.le_succ _)) (I.hok.fresh (Nat.le_refl _)) (Nat.ne_of_lt (Nat.lt_succ_self _))
  have I2 := Inv.made (C := C) I
  have r2 : Vals (V.ref (s.heap.objs.size + 1) :: (vs ++ dvs)) (Value.ref (s.heap.objs.size + 1) :: (us ++ ds)) := .cons rfl (r.append hd)
  have hl : (Value.ref (s.heap.objs.size + 1) :: us ++ ds).length = ps.length := by
    have e := r2.length
    rw [F.len _ _ _ _ hq] at e
    exact e.symm
  refine wpAny_call (make_map (f := f) I.kIn M.makes M.init (beq_iff_eq.mp M.fn) (codeAny_mono (F.run _ X.stack _ _ ⟨Value.ref (s.heap.objs.size + 1) :: us, []⟩ (Value.ref (s.heap.objs.size + 1) :: (us ++ ds)) _ _ E (hr.make C us [])
    (I2.env0.make C us []) (hb _ (Value.ref (s.heap.objs.size + 1) :: us) I2.kIn hl) r2 hq) fun r s' hq' => ?_))
  cases r with
  | error e => exact hx pins σ _ _ e s' I2 hq'
  | ok fl =>
    cases fl with
    | ret u =>
      obtain ⟨v, H', I3, rv, ev, q3⟩ := I2.after hq'
      subst ev
      exact ⟨rv, ⟨V.ref (s.heap.objs.size + 1), H', I3, rfl, q3⟩⟩
    | next => exact False.elim hq'
    | brk => exact False.elim hq'
    | cont => exact False.elim hq'
theorem pe_make0 (M : Mk X.K C f) (F : FnOk X.prog X.w X.K X.mg X.base CX k f fd ps sp) (hr : Room (k + 1) X.A) (hg : Gl X x) (hm : X.mg x = some (.ref C)) (hb : Binds X.K fd ps ds) (hd : Vals dvs ds) (hx : Passes CX X E)
    (hdb : (x == ("__debug__" : Str)) = false := by decide) : PE X (.Call (.Name x p) [] [] pos) (tMake C sp dvs E tNil) := by
  intro pins s σ H Q I h
  refine wpAny_Call_Name_kw (ld_glob I hg hm ?_ hdb)
  exact PySem.W.callWith_K0 I.kIn M.kp (run_make (us := []) M F hr hb hd hx I .nil h)
end
/-! ### keywords -/
section
variable {X : Cx} {CX : CXT} {k : Nat} {f C : Addr} {fd : FuncData} {ps ks : List Str} {sp : Sp} {E : XK} {x m : Str} {p pos apos kpos : Pos} {e o : Expr} {es : List Expr} {kws : List Keyword} {te ta : TE} {t tk : TA} {nm : Option Str}
variable {g : List Value → List Value → List Value} {gV : List V → List V → List V}
end
/-! ### a def's body keeps its promise -/
/-- names: the parameters first -/
structure FnScope (N P : List Str) (sc : Scope) : Prop where
  kind : sc.kind = .function
  co : sc.isCoroutine = false
  gen : sc.isGenerator = false
  nd : N.Nodup
  pre : N.take P.length = P
  par : ∀ x ∈ P, sc.names.lookup x = some .local ∨ sc.names.lookup x = some .cell
  nofree : ∀ y ∈ sc.names, y.2 ≠ .free
theorem bindL_out {kindOf : Str → Option NameKind} {x : Str} : ∀ {binds : List (Str × Value)} {m : Str → Option Value}, (∀ v, (x, v) ∉ binds) → bindL kindOf binds m x = m x
  | [], _, _ => rfl
  | (n, v) :: r, m, h => by
    unfold bindL
    rw [bindL_out fun w hw => h w (List.mem_cons_of_mem _ hw)]
    split
    · have : x ≠ n := by rintro rfl; exact h v List.mem_cons_self
      simp [this]
    · rfl
theorem bindC_out {kindOf : Str → Option NameKind} {x : Str} : ∀ {binds : List (Str × Value)} {m : Str → Option Value}, (∀ v, (x, v) ∉ binds) → bindC kindOf binds m x = m x
  | [], _, _ => rfl
  | (n, v) :: r, m, h => by
    unfold bindC
    rw [bindC_out fun w hw => h w (List.mem_cons_of_mem _ hw)]
    split
    · rfl
    · have : x ≠ n := by rintro rfl; exact h v List.mem_cons_self
      simp [this]
theorem bindL_get {kindOf : Str → Option NameKind} {x : Str} {v : Value} : ∀ {P : List Str} {vs : List Value} {i : Nat} {m : Str → Option Value}, P.Nodup → P[i]? = some x → vs[i]? = some v → kindOf x = some .local →
    bindL kindOf (P.zip vs) m x = some v
  | [], _, _, _, _, h, _, _ => by simp at h
  | _ :: _, [], _, _, _, _, h, _ => by simp at h
  | p :: P, w :: vs, 0, m, nd, h1, h2, hk => by
    simp at h1 h2; subst h1; subst h2
    show bindL kindOf ((p, w) :: P.zip vs) m p = _
    unfold bindL
    rw [bindL_out fun v hv => (List.nodup_cons.mp nd).1 (List.of_mem_zip hv).1, if_pos hk]
    simp
  | p :: P, w :: vs, i + 1, m, nd, h1, h2, hk => by
    show bindL kindOf ((p, w) :: P.zip vs) m x = _
    unfold bindL
    exact bindL_get (i := i) (List.nodup_cons.mp nd).2 (by simpa using h1) (by simpa using h2) hk
theorem bindC_get {kindOf : Str → Option NameKind} {x : Str} {v : Value} : ∀ {P : List Str} {vs : List Value} {i : Nat} {m : Str → Option Value}, P.Nodup → P[i]? = some x → vs[i]? = some v → kindOf x ≠ some .local →
    bindC kindOf (P.zip vs) m x = some v
  | [], _, _, _, _, h, _, _ => by simp at h
  | _ :: _, [], _, _, _, _, h, _ => by simp at h
  | p :: P, w :: vs, 0, m, nd, h1, h2, hk => by
    simp at h1 h2; subst h1; subst h2
    show bindC kindOf ((p, w) :: P.zip vs) m p = _
    unfold bindC
    rw [bindC_out fun v hv => (List.nodup_cons.mp nd).1 (List.of_mem_zip hv).1, if_neg hk]
    simp
  | p :: P, w :: vs, i + 1, m, nd, h1, h2, hk => by
    show bindC kindOf ((p, w) :: P.zip vs) m x = _
    unfold bindC
    exact bindC_get (i := i) (List.nodup_cons.mp nd).2 (by simpa using h1) (by simpa using h2) hk
/-- the names' values at the entry -/
def start (N : List Str) (vs : List V) : St := vs.map some ++ List.replicate (N.length - vs.length) none
/-- the context of a def's body, at its entry; an exception leaves the frame, then lies as CX says -/
def cxOf (CX : CXT) (P : Program) (w : World) (K : PySem.W.Frag) (mg : Str → Option Value) (base : Heap) (N : List Str) (qual : Str) (scope : Scope) (f : Addr) (cd : Value) (A : Around) (outer : List Env) (s : Shared) (H : Hp) (E : XK) : Cx where
  prog := P
  w := w
  K := K
  mg := mg
  base := base
  A := A.deeper (envOfC qual scope s.heap.objs.size f cd)
  N := N
  s_0 := s
  H_0 := H
  env := envOfC qual scope s.heap.objs.size f cd
  outer := outer
  stack := envOfC qual scope s.heap.objs.size f cd :: outer
  ex := []
  calm := true
  fn := fun _ => true
  pn := []
  xe := fun e s' => wpAny (model P w) (A.deeper (envOfC qual scope s.heap.objs.size f cd)) (leaving (envOfC qual scope s.heap.objs.size f cd) e) (fun _ s'' => CX outer H s E e s'') (fun e' s'' => CX outer H s E e' s'') s'
theorem cell_has {sc : Scope} {n : Nat} {x : Str} (h : sc.names.lookup x = some .cell) : ∃ c, (cellsFrom n sc.names []).lookup x = some c := by
  have q := PySem.W.cellsFrom_some sc.names n [] (.inl h)
  exact Option.isSome_iff_exists.mp q
theorem inv_start {CX : CXT} {P : Program} {w : World} {K : PySem.W.Frag} {mg : Str → Option Value} {base : Heap} {N ps : List Str} {qual : Str} {scope : Scope} {f : Addr} {cd : Value} {A : Around} {outer : List Env} {s s1 : Shared} {H : Hp} {E : XK} {us : List Value} {vs : List V}
    (S : FnScope N ps scope) (hd : A.handled = none) (e0 : Env0 P w K mg base A outer s H) (hl : vs.length = ps.length) (r : Vals vs us)
    (x : InCallC s s.heap.objs.size (bindL (envOfC qual scope s.heap.objs.size f cd).kindOf (ps.zip us) fun _ => none) (cellsFrom (s.heap.objs.size + 1) scope.names []) (bindC (envOfC qual scope s.heap.objs.size f cd).kindOf (ps.zip us) fun _ => none) s1) :
    Inv (cxOf CX P w K mg base N qual scope f cd A outer s H E) [] (start N vs) H s1 := by
  have hpl : ps.length ≤ N.length := by have := congrArg List.length S.pre; rw [List.length_take] at this; omega
  obtain ⟨h1, tk, rfl, hk⟩ := x.done
  have noA : ∀ b : Addr, b ∉ (cxOf CX P w K mg base N qual scope f cd A outer s H E).ex := fun b z => absurd (show b ∈ ([] : List Addr) from z) (by simp)
  refine ⟨⟨e0.mod, S.kind, rfl, rfl, Nat.le_refl _, fun y z c h1 h2 => ?_, fun y hy => ?_, fun y c _ h => ?_, fun _ => hd, Around.frames_deeper e0.frames, .inr ⟨rfl, rfl⟩, fun b z => absurd z (noA b), e0.bs, e0.bsz, fun b _ _ => noA b, fun b z => absurd z (noA b), e0.funs, e0.frf⟩,
    rfl, e0.bare, Un.kept hk, ⟨_, x.toInCall.ns, fun i y v h1 h2 h3 => ?_⟩, fun y c h => ⟨_, x.cell y c h⟩, e0.hok.fresh (Nat.le_refl _), fun y c h => ?_, fun p hp => absurd (show p ∈ ([] : List (Addr × Obj)) from hp) (by simp), e0.hok.kept hk, ?_⟩
  · exact name_of_addr x.apart (PySem.mem_of_lookup h1) (PySem.mem_of_lookup h2)
  · have hy : scope.names.lookup y = some .cell ∨ scope.names.lookup y = some .free := hy
    rcases hy with hy | hy
    · exact cell_has hy
    · exact absurd rfl (S.nofree _ (PySem.mem_of_lookup hy))
  · exact Nat.le_of_lt (x.above y c (PySem.mem_of_lookup h))
  · have hi : i < vs.length := by
      unfold start at h2
      by_cases hi : i < vs.length
      · exact hi
      · rw [List.getElem?_append_right (by simpa using hi)] at h2
        rw [List.getElem?_replicate] at h2
        split at h2 <;> cases h2
    have ha : vs[i]? = some v := by
      unfold start at h2
      rw [List.getElem?_append_left (by simpa using hi), List.getElem?_map] at h2
      cases e : vs[i]? with
      | none => rw [e] at h2; cases h2
      | some a => rw [e] at h2; cases h2; rfl
    obtain ⟨u, hu, rv⟩ := r.get ha
    have hp : ps[i]? = some y := by
      rw [← S.pre, List.getElem?_take_of_lt (by omega)]; exact h1
    have ndP : ps.Nodup := by rw [← S.pre]; exact S.nd.sublist (List.take_sublist _ _)
    refine ⟨u, rv, ?_⟩
    rcases S.par y (List.mem_of_getElem? hp) with k | k
    · exact .inl ⟨k, bindL_get ndP hp hu k⟩
    · obtain ⟨c, e⟩ := cell_has (n := s.heap.objs.size + 1) k
      refine .inr ⟨.inl k, c, e, ?_⟩
      have q := x.cell y c e
      rw [bindC_get ndP hp hu (by show scope.names.lookup y ≠ _; rw [k]; decide)] at q
      exact q
  · exact e0.hok.fresh (Nat.le_of_lt (x.above y c (PySem.mem_of_lookup h)))
  · unfold start
    show _ = N.length
    rw [List.length_append, List.length_map, List.length_replicate]
    omega
/-- THE RULE: a def (or a method) of the text, by its body. The body's reading t is chosen for each entry; it is run at the parameters' values -/
theorem fn_of {CX : CXT} {P : Program} {w : World} {K : PySem.W.Frag} {mg : Str → Option Value} {base : Heap} {k : Nat} {f : Addr} {name qual : Str} {params : Arguments} {body : List Stmt} {scope : Scope} {dV kV doc pm cdv ct oc : Value} {an od : Option Addr}
    {osl : Array (Option Value)} {N ps : List Str} {sp : Sp} (lk : K.lookup f = some ⟨oc, od, .func (PySem.W.fnOf name qual params body scope dV kV doc pm an cdv ct), osl⟩) (hcd : PySem.W.codeIn K cdv qual = true) (S : FnScope N ps scope)
    (len : ∀ vs H Q E, sp vs H Q E → vs.length = ps.length)
    (hbody : ∀ (A : Around) (outer : List Env) (s : Shared) (H : Hp) (vs : List V) (Q : VK) (E : XK), Room k (A.deeper (envOfC qual scope s.heap.objs.size f cdv)) → sp vs H Q E →
      ∃ t, PSs (cxOf CX P w K mg base N qual scope f cdv A outer s H E) body t ∧ t { nx := fun _ H' => Q .non H', rt := Q } (start N vs) H) :
    FnOk P w K mg base CX (k + 1) f (PySem.W.fnOf name qual params body scope dV kV doc pm an cdv ct) ps sp := by
  refine ⟨len, fun A outer s H args us vs Q E hr e0 hb r hsp => ?_⟩
  have hl := len _ _ _ _ hsp
  have KX : K.In s.heap := e0.mod.kin.keeps fun b o e => (e0.bs b o e).1
  have lim : s.heap.NoLimit := e0.mod.nolimit.keeps fun b o e => (e0.bs b o e).1
  have hkind : ∀ y ∈ ps.zip us, scope.names.lookup y.1 = some .local ∨ (scope.names.lookup y.1 = some .cell ∧ ((cellsFrom (s.heap.objs.size + 1) scope.names []).lookup y.1).isSome = true) := fun ⟨n, v⟩ hy => by
    rcases S.par n (List.of_mem_zip hy).1 with q | q
    · exact .inl q
    · exact .inr ⟨q, PySem.W.cellsFrom_some _ _ _ (.inl q)⟩
  refine codeAny_call_function hr.depth (KX _ _ lk) rfl S.co S.gen rfl (PySem.W.codeRec_of KX hcd) (hb _ _ _ _ ?_)
  refine wpAny_newFunctionEnv_cells S.kind hkind fun env he s1 x => ?_
  subst he
  refine ⟨lim.keeps x.toInCall.keep, codeAny_func ?_⟩
  obtain ⟨t, ht, hq⟩ := hbody A outer s H vs Q E (hr.deeper _) hsp
  have I : Inv (cxOf CX P w K mg base N qual scope f cdv A outer s H E) [] (start N vs) H s1 := inv_start S hr.hd e0 hl r x
  refine wpAny_mono (ht [] s1 (start N vs) H _ I hq) (fun fl s' hs => ?_) fun e s' hs => hs
  have fin : ∀ {σ' : St} {H' : Hp} {v : V} {u : Value}, Inv (cxOf CX P w K mg base N qual scope f cdv A outer s H E) [] σ' H' s' → RelV v u → Q v H' → CE outer P w H s Q u s' :=
    fun {σ' H' v u} J rv q => ⟨v, H', J.os, J.bare, J.base, J.hok, rv, q⟩
  cases fl with
  | ret u =>
    obtain ⟨v, σ', H', J, rv, q⟩ := hs
    exact fin J rv q
  | next =>
    obtain ⟨σ', H', J, q⟩ := hs
    exact fin (v := V.non) (u := Value.none) J rfl q
  | brk =>
    obtain ⟨_, _, _, q⟩ := hs
    exact False.elim q
  | cont =>
    obtain ⟨_, _, _, q⟩ := hs
    exact False.elim q
end L2
namespace L2
open PySem PySem.Spec PyProof.Rows
section
variable {X : Cx} {x : Str} {p pos : Pos} {e : Expr} {es : List Expr} {t : TA} {id T : String} {r : List V → Hp → VK → Prop}
def tCB (r : List V → Hp → VK → Prop) (t : TA) : TE := fun σ H Q => t σ H fun vs H1 => r vs H1 Q
/-- f(e, ..), f a built-in function -/
theorem pe_callB (hc : CallR X (.builtin id) r) (hg : Gl X x) (hm : X.mg x = none) (hv : bootBuiltins x = some (.builtin id)) (ha : PA X (e :: es) t) (hn : x ≠ "__name__" := by decide) (hdb : (x == ("__debug__" : Str)) = false := by decide)
    (he : starEach (e :: es) X.env = (false, eval e X.env) :: starEach es X.env := by rfl) (hpl : (backTo pos (starEach es X.env)).any (·.1) = false := by rfl) : PE X (.Call (.Name x p) (e :: es) [] pos) (tCB r t) := by
  intro pins s σ H Q I h
  refine wpAny_Call_Name_kw (ld_blt I hg hm hv ?_ hn hdb)
  exact PyProof.Rows.callWith_builtin1 (thn (ha pos pins s σ H _ I h) fun us s1 ⟨vs, H1, I1, r1, q1⟩ => hc pins s1 σ H1 vs us Q I1 r1 q1) he hpl
/-- T(e, ..), T a built-in type -/
theorem pe_callTy (hc : CallR X (.type T) r) (hg : Gl X x) (hm : X.mg x = none) (hv : bootBuiltins x = some (.type T)) (ha : PA X (e :: es) t) (hn : x ≠ "__name__" := by decide) (hdb : (x == ("__debug__" : Str)) = false := by decide)
    (he : starEach (e :: es) X.env = (false, eval e X.env) :: starEach es X.env := by rfl) (hpl : (backTo pos (starEach es X.env)).any (·.1) = false := by rfl) : PE X (.Call (.Name x p) (e :: es) [] pos) (tCB r t) := by
  intro pins s σ H Q I h
  refine wpAny_Call_Name_kw (ld_blt I hg hm hv ?_ hn hdb)
  exact PyProof.Rows.callWith_type1 (thn (ha pos pins s σ H _ I h) fun us s1 ⟨vs, H1, I1, r1, q1⟩ => hc pins s1 σ H1 vs us Q I1 r1 q1) he hpl
end
end L2
namespace HT
open PySem PyProof.Rows
/-- t < u of tuples of ints -/
def lexLt : List Int → List Int → Bool
  | [], [] => false
  | [], _ :: _ => true
  | _ :: _, [] => false
  | x :: xs, y :: ys => if x = y then lexLt xs ys else decide (x < y)
theorem lexLt_cons (x y : Int) (xs ys : List Int) : lexLt (x :: xs) (y :: ys) = if x = y then lexLt xs ys else decide (x < y) := rfl
theorem lexLt_nil_nil : lexLt [] [] = false := rfl
theorem lexLt_nil_cons (y : Int) (ys : List Int) : lexLt [] (y :: ys) = true := rfl
theorem lexLt_cons_nil (x : Int) (xs : List Int) : lexLt (x :: xs) [] = false := rfl
theorem eqAt_int (A : Around) (s : Shared) (a : Int) (t : Tok) (c : Int) (u : Tok) : ∃ e, SeqAt.EqAt A s (.int a t) (.int c u) e ∧ (e = true ↔ a = c) :=
  ⟨(a == c), SeqAt.EqAt.int_int a t c u, by simp⟩
theorem rcLt_int (A : Around) (s : Shared) (a : Int) (t : Tok) (c : Int) (u : Tok) (prog : Program) (w : World) (E : Value → Shared → Prop) (Q : Value → Shared → Prop) (h : Q (.bool (decide (a < c))) s) :
    wpAny (model prog w) A (richCompare .Lt (.int a t) (.int c u)) Q E s :=
  (PyProof.Rows.lt_int h : wpAny (model prog w) A (compareOp .Lt (.int a t) (.int c u)) Q E s)
section
open PySem.SeqAt
open PySem.AutoSeq1 (wpAny_loadPart')
open PySem.MeetsSeq PySem.MeetsSeq2 PySem.MeetsSeq3
theorem tuple_lt_ints (l b : Addr) (items items2 : Array Value) (n n2 : Nat) (dd dd2 : Option Addr) (sl sl2 : Array (Option Value)) (ns ms : List Int) (hi : IntsAre items.toList ns) (hj : IntsAre items2.toList ms) :
    Meets (Builtin.«tuple.__lt__» ⟨[.ref l, .ref b], []⟩)
      (fun _ R s => s.heap.get? l = some { cls := .type "tuple", dict := dd, data := .seq items n, slots := sl } ∧ s.heap.get? b = some { cls := .type "tuple", dict := dd2, data := .seq items2 n2, slots := sl2 } ∧
        R (.ok (.ret (.bool (lexLt ns ms)))) s) :=
  .of_wp fun prog w A R s h => by
    obtain ⟨hp, g, d, tk, os⟩ := s; obtain ⟨hl, hb, h⟩ := h
    have f2 := AutoSeq1.sub_tuple_tuple
    have z1 : items.size = ns.length := by rw [← hi.length]; simp
    have z2 : items2.size = ms.length := by rw [← hj.length]; simp
    wp_walk using wpAny_loadPart' hl, wpAny_loadPart' hb, wpAny_forIn_list _ (fun rest b s' => b.1 = none ∧ s' = ⟨hp, g, d, tk, os⟩ ∧ ∃ (vs ws : List Value) (ns' ms' : List Int), rest = vs.zip ws ∧
      IntsAre vs ns' ∧ IntsAre ws ms' ∧ ns'.length + items2.size = ms'.length + items.size ∧ R (.ok (.ret (.bool (lexLt ns' ms')))) ⟨hp, g, d, tk, os⟩) _
    case turn =>
      rintro ⟨y, x⟩ rest b s' ⟨hb', rfl, vs, ws, ns', ms', hz, hvi, hwi, hlen, hR⟩
      cases hvi with
      | nil => rw [List.zip_nil_left] at hz; cases hz
      | cons a t hvi' =>
        cases hwi with
        | nil => rw [List.zip_nil_right] at hz; cases hz
        | cons c u hwi' =>
          rw [List.zip_cons_cons] at hz
          injection hz with hyx hrest
          injection hyx with hy hx
          subst hy hx
          rw [lexLt_cons] at hR
          simp only [List.length_cons] at hlen
          obtain ⟨e, he, hiff⟩ := eqAt_int A.in1 ⟨hp, g, d, tk, os⟩ a t c u
          refine wpAny_bind (he prog w _ _ ?_)
          cases e with
          | true =>
            rw [if_pos (hiff.mp rfl)] at hR
            wp_walk
            exact ⟨rfl, rfl, _, _, _, _, hrest, hvi', hwi', by omega, hR⟩
          | false =>
            rw [if_neg (fun q => absurd (hiff.mpr q) Bool.false_ne_true)] at hR
            have hri := rcLt_int A.in1 ⟨hp, g, d, tk, os⟩ a t c u prog w
            wp_walk using hri
            exact ⟨_, rfl, by simpa using hR⟩
    case fin =>
      rintro ⟨b1, b2⟩ s' ⟨hb', rfl, vs, ws, ns', ms', hz, hvi, hwi, hlen, hR⟩
      simp only at hb'
      subst hb'
      have hv : lexLt ns' ms' = decide (items.size < items2.size) := by
        cases hvi with
        | nil =>
          cases hwi with
          | nil =>
            simp only [List.length_nil] at hlen
            rw [lexLt_nil_nil]
            exact (decide_eq_false (by omega)).symm
          | cons c u hw =>
            simp only [List.length_nil, List.length_cons] at hlen
            rw [lexLt_nil_cons]
            exact (decide_eq_true (by omega)).symm
        | cons a t hv =>
          cases hwi with
          | nil =>
            simp only [List.length_nil, List.length_cons] at hlen
            rw [lexLt_cons_nil]
            exact (decide_eq_false (by omega)).symm
          | cons c u hw =>
            rw [List.zip_cons_cons] at hz
            cases hz
      rw [hv] at hR
      wp_walk
      exact ⟨_, rfl, by simpa [Builtin.Tuple.tupleCompareSizes] using hR⟩
    case h =>
      exact ⟨rfl, rfl, items.toList, items2.toList, ns, ms, rfl, hi, hj, by omega, h⟩
end
section
variable {prog : Program} {w : World} {A : Around} {E : Value → Shared → Prop} {s : Shared}
theorem lt_tupInts {l b : Addr} {items items2 : Array Value} {ns ms : List Int} {Q : Value → Shared → Prop} (hl : IsTup s.heap l items) (hb : IsTup s.heap b items2) (hi : IntsAre items.toList ns) (hj : IntsAre items2.toList ms)
    (hu : A.units < cLine) (h : Q (.bool (lexLt ns ms)) s) : wpAny (model prog w) A (compareOp .Lt (.ref l) (.ref b)) Q E s := by
  obtain ⟨⟨cls, dd, data, sl⟩, ho, hc, n, hd⟩ := id hl
  obtain ⟨⟨cls2, dd2, data2, sl2⟩, ho2, hc2, n2, hd2⟩ := id hb
  simp only at hc hd hc2 hd2
  subst hc hd hc2 hd2
  exact richCompare_meets_room (op := .Lt) ⟨_, ho, rfl⟩ ⟨_, ho2, rfl⟩ PySem.F.slot_tuple_lt PySem.F.entry_tuple_lt (PySem.F.args_tuple_lt_2 _ _) (tuple_lt_ints l b items items2 n n2 dd dd2 sl sl2 ns ms hi hj)
    ⟨ho, ho2, show Value.bool (lexLt ns ms) ≠ Value.notImplemented ∧ Q (.bool (lexLt ns ms)) s from ⟨(fun x => nomatch x), h⟩⟩ hu
/-! ### t[a:b], not the whole -/
/-- a slice's bound as a place among n (d where it is left out) -/
def sIx (n d : Nat) : Option Int → Nat
  | none => d
  | some v => if v < 0 then (v + (n : Int)).toNat else min v.toNat n
theorem sIx_nat (n d k : Nat) : sIx n d (some (k : Int)) = min k n := by
  show (if (k : Int) < 0 then ((k : Int) + (n : Int)).toNat else min (k : Int).toNat n) = min k n
  rw [if_neg (by omega), Int.toNat_natCast]
end
end HT
namespace L2
open PySem PySem.Spec PyProof.Rows
/-! ### the parts of a slice -/
abbrev TO := St → Hp → (Option Int → Hp → Prop) → Prop
/-- a slice's part (left out, or an int) -/
def PO (X : Cx) (e : Option Expr) (t : TO) : Prop :=
  ∀ (pins : List (Addr × Obj)) (s : Shared) (σ : St) (H : Hp) (Q : Option Int → Hp → Prop), Inv X pins σ H s → t σ H Q →
    wpAny (model X.prog X.w) X.A (evalPart e X.env) (fun u s' => ∃ o H', Inv X pins σ H' s' ∧ IsPart u o ∧ Q o H') X.xe s
def tPart (t : TE) : TO := fun σ H Q => t σ H fun x H1 => ∃ i, x = .int i ∧ Q (some i) H1
section
variable {X : Cx} {e : Expr} {te : TE} {lo hi : Option Expr} {tl th : TO} {pos p2 : Pos}
theorem po_some (h : PE X e te) : PO X (some e) (tPart te) := by
  intro pins s σ H Q I hw
  rw [evalPart_some]
  refine thn (h pins s σ H _ I hw) fun u s1 ⟨x, H1, I1, r1, q1⟩ => ?_
  obtain ⟨i, rfl, q⟩ := q1
  obtain ⟨t, rfl⟩ := r1
  exact ⟨some i, H1, I1, .int i t, q⟩
/-- what a slice of a value is, by values: the slice object stands at sl -/
def SlR (X : Cx) (r : V → Option Int → Option Int → Hp → VK → Prop) : Prop :=
  ∀ (pins : List (Addr × Obj)) (s : Shared) (σ : St) (H : Hp) (x : V) (v vl vu : Value) (lo hi : Option Int) (sl : Addr) (Q : VK), Inv X pins σ H s → RelV x v → s.heap.IsSliceOf sl vl vu .none → IsPart vl lo → IsPart vu hi → r x lo hi H Q →
    ∃ T id, typeLookup (.type T) "__getitem__" = pure (some (.builtin id)) ∧ s.TypeIs v T ∧ wpAny (model X.prog X.w) X.A (getItem v (.ref sl)) (EP X pins σ Q) X.xe s
theorem SlR.or {r r' : V → Option Int → Option Int → Hp → VK → Prop} (h : SlR X r) (h' : SlR X r') : SlR X (fun x lo hi H Q => r x lo hi H Q ∨ r' x lo hi H Q) := by
  intro pins s σ H x v vl vu lo hi sl Q I rx hs pl pu q
  rcases q with q | q
  · exact h pins s σ H x v vl vu lo hi sl Q I rx hs pl pu q
  · exact h' pins s σ H x v vl vu lo hi sl Q I rx hs pl pu q
def tSl (r : V → Option Int → Option Int → Hp → VK → Prop) (te : TE) (tl th : TO) : TE := fun σ H Q => te σ H fun x H1 => tl σ H1 fun l H2 => th σ H2 fun u H3 => r x l u H3 Q
/-- a[lo:hi], any a -/
theorem pe_slice {r : V → Option Int → Option Int → Hp → VK → Prop} (hr : SlR X r) (he : PE X e te) (hl : PO X lo tl) (hu : PO X hi th) : PE X (.Subscript e (.Slice lo hi none p2) pos) (tSl r te tl th) := by
  intro pins s σ H Q I h
  refine Subscript_ (thn (he pins s σ H _ I h) fun v s1 ⟨x, H1, I1, r1, q1⟩ => ?_)
  refine wpAny_Slice (thn (hl pins s1 σ H1 _ I1 q1) fun vl s2 ⟨l, H2, I2, pl, q2⟩ => thn (hu pins s2 σ H2 _ I2 q2) fun vu s3 ⟨u, H3, I3, pu, q3⟩ => ?_)
  rw [evalPart_none]
  refine wpAny_pure ?_
  have I4 : Inv X pins σ H3 { s3 with heap := s3.heap.push { cls := .type "slice", data := .fields #[vl, vu, .none] } } := I3.kept (t' := s3.toks) fun b ob q => Heap.get?_push_of_some _ q
  obtain ⟨T, id, hT, ht, hg⟩ := hr pins { s3 with heap := s3.heap.push { cls := .type "slice", data := .fields #[vl, vu, .none] } } σ H3 x v vl vu l u s3.heap.objs.size Q I4 r1 (Heap.IsSliceOf.new ..) pl pu q3
  show wpAny (model X.prog X.w) X.A (subscriptTail e (.Slice lo hi none p2) v (.ref s3.heap.objs.size)) (EP X pins σ Q) X.xe { s3 with heap := s3.heap.push { cls := .type "slice", data := .fields #[vl, vu, .none] } }
  exact tail_any (ops := [.ref s3.heap.objs.size, v]) ht hT hg (by with_unfolding_all rfl)
/-- the items of xs[lo:hi] -/
def cutV (xs : List V) (lo hi : Option Int) : List V := (xs.drop (HT.sIx xs.length 0 lo)).take (HT.sIx xs.length xs.length hi - HT.sIx xs.length 0 lo)
theorem cutV_length (xs : List V) (lo hi : Option Int) : (cutV xs lo hi).length ≤ xs.length := by
  unfold cutV
  rw [List.length_take, List.length_drop]
  omega
/-! ### t < u, t + u -/
end
end L2
namespace L2
open PySem PySem.Spec PyProof.Rows
/-! ### places -/
/-- the place that an index of any sign means -/
def ixN (n : Nat) (i : Int) : Option Nat := if 0 ≤ i then (if i < n then some i.toNat else none) else if -(n : Int) ≤ i then some (i + n).toNat else none
def atI {α : Type} (xs : List α) (i : Int) : Option α := (ixN xs.length i).bind fun j => xs[j]?
theorem ixN_seq {n : Nat} {i : Int} {j : Nat} (h : ixN n i = some j) : seqIndex? i n = some j ∧ j < n ∧ -(n : Int) ≤ i ∧ i < n := by
  unfold ixN at h
  by_cases h0 : 0 ≤ i
  · rw [if_pos h0] at h
    by_cases h1 : i < n
    · rw [if_pos h1] at h
      have e : i.toNat = j := Option.some.inj h
      exact ⟨by rw [seqIndex_of h0 h1, e], by omega, by omega, h1⟩
    · rw [if_neg h1] at h; cases h
  · rw [if_neg h0] at h
    by_cases h1 : -(n : Int) ≤ i
    · rw [if_pos h1] at h
      have e : (i + n).toNat = j := Option.some.inj h
      exact ⟨by rw [seqIndex_neg (by omega) h1, e], by omega, h1, by omega⟩
    · rw [if_neg h1] at h; cases h
theorem atI_get {α : Type} {xs : List α} {i : Int} {v : α} (h : atI xs i = some v) : ∃ j, seqIndex? i xs.length = some j ∧ xs[j]? = some v ∧ j < xs.length ∧ -(xs.length : Int) ≤ i ∧ i < xs.length := by
  unfold atI at h
  cases e : ixN xs.length i with
  | none => rw [e] at h; cases h
  | some j =>
    rw [e] at h
    obtain ⟨h1, h2, h3, h4⟩ := ixN_seq e
    exact ⟨j, h1, h, h2, h3, h4⟩
theorem atI_nat {α : Type} {xs : List α} {j : Nat} {v : α} (h : xs[j]? = some v) : atI xs (j : Int) = some v := by
  have hj : j < xs.length := (List.getElem?_eq_some_iff.mp h).1
  have e : ixN xs.length (j : Int) = some j := by
    unfold ixN
    rw [if_pos (by omega), if_pos (by omega)]; simp
  unfold atI; rw [e]; exact h
theorem atI_last {α : Type} (xs : List α) (v : α) : atI (xs ++ [v]) (-1) = some v := by
  have hl : (xs ++ [v]).length = xs.length + 1 := by simp
  have e : ixN (xs ++ [v]).length (-1) = some xs.length := by
    unfold ixN
    rw [hl, if_neg (by decide), if_pos (by omega)]
    congr 1
    omega
  unfold atI
  rw [e]
  show (xs ++ [v])[xs.length]? = some v
  simp
/-! ### what may be subscripted -/
/-- what stands as an index of a plain subscript -/
def PlainIx (b : Expr) : Prop := ∀ o i, subscripted b false o i = operate [o, i] (getItem o i)
/-- a subscript by values -/
def IxR (X : Cx) (r : R2) : Prop :=
  ∀ (value slice : Expr) (pins : List (Addr × Obj)) (s : Shared) (σ : St) (H : Hp) (x y : V) (v u : Value) (Q : VK), Inv X pins σ H s → RelV x v → RelV y u → r x y H Q →
    subscripted slice false v u = operate [v, u] (getItem v u) → wpAny (model X.prog X.w) X.A (subscriptTail value slice v u) (EP X pins σ Q) X.xe s
/-- a call of a builtin's method by values: the receiver, the arguments -/
def MtR (X : Cx) (id : String) (r : V → List V → Hp → VK → Prop) : Prop :=
  ∀ (pins : List (Addr × Obj)) (s : Shared) (σ : St) (H : Hp) (x : V) (xs : List V) (v : Value) (us : List Value) (Q : VK), Inv X pins σ H s → RelV x v → Vals xs us → r x xs H Q →
    wpAny (model X.prog X.w) X.A (call (.builtin id) (v :: us)) (EP X pins σ Q) X.xe s
section
variable {X : Cx} {a b : Expr} {ta tb : TE} {pos : Pos}
theorem IxR.or {r r' : R2} (h : IxR X r) (h' : IxR X r') : IxR X (fun x y H Q => r x y H Q ∨ r' x y H Q) := by
  intro value slice pins s σ H x y v u Q I rx ry q hs
  rcases q with q | q
  · exact h value slice pins s σ H x y v u Q I rx ry q hs
  · exact h' value slice pins s σ H x y v u Q I rx ry q hs
theorem MtR.or {id : String} {r r' : V → List V → Hp → VK → Prop} (h : MtR X id r) (h' : MtR X id r') : MtR X id (fun x xs H Q => r x xs H Q ∨ r' x xs H Q) := by
  intro pins s σ H x xs v us Q I rx rs q
  rcases q with q | q
  · exact h pins s σ H x xs v us Q I rx rs q
  · exact h' pins s σ H x xs v us Q I rx rs q
/-- a[b] -/
theorem pe_ix {r : R2} (hr : IxR X r) (ha : PE X a ta) (hb : PE X b tb) (hs : PlainIx b) : PE X (.Subscript a b pos) (tOp r ta tb) := by
  intro pins s σ H Q I h
  exact Subscript_ (binT ha hb I h fun v u s2 x y H2 I2 rx ry q => hr a b pins s2 σ H2 x y v u Q I2 rx ry q (hs _ _))
def rIxL (K : PySem.W.Frag) : R2 := fun x y H Q => ∃ p xs i v, x = .ref p ∧ y = .int i ∧ SqL K H p xs ∧ atI xs i = some v ∧ Q v H
def rIxT (K : PySem.W.Frag) : R2 := fun x y H Q => ∃ p xs i v, x = .ref p ∧ y = .int i ∧ SqT K H p xs ∧ atI xs i = some v ∧ Q v H
theorem ix_list : IxR X (rIxL X.K) := by
  intro value slice pins s σ H x y v u Q I rx ry h hs
  obtain ⟨p, xs, i, z, rfl, rfl, hq, he, q⟩ := h
  cases rx
  obtain ⟨t, rfl⟩ := ry
  obtain ⟨its, r, pl, hz⟩ := I.list hq
  obtain ⟨j, h1, h2, h3, h4, h5⟩ := atI_get he
  obtain ⟨w, ew, rw'⟩ := r.get h2
  have hl := r.length
  have hn := line63
  have fin : EP X pins σ Q w s := ⟨z, H, I, rw', q⟩
  by_cases h0 : 0 ≤ i
  · have hj : i.toNat = j := by
      rw [seqIndex_of h0 h5] at h1
      exact Option.some.inj h1
    exact item_listR pl.isList h0 (by omega) (by rw [hj]; simpa using ew) fin hs
  · have hj : (i + (its.toArray.size : Int)).toNat = j := by
      rw [seqIndex_neg (by omega) h4] at h1
      rw [List.size_toArray, ← hl]
      exact Option.some.inj h1
    exact subscriptTail_builtinR (x := w) pl.isList.typeIs slot_list_getitem.lookup
      (wpAny_getItem_list_neg (Q := fun r s' => r = w ∧ EP X pins σ Q r s') pl.isList (by omega) (by rw [List.size_toArray] <;> omega) (by omega) (by rw [hj]; simpa using ew) ⟨rfl, fin⟩) hs
theorem ix_tup : IxR X (rIxT X.K) := by
  intro value slice pins s σ H x y v u Q I rx ry h hs
  obtain ⟨p, xs, i, z, rfl, rfl, hq, he, q⟩ := h
  cases rx
  obtain ⟨t, rfl⟩ := ry
  obtain ⟨its, r, pl, hz⟩ := I.tuple hq
  obtain ⟨j, h1, h2, h3, h4, h5⟩ := atI_get he
  obtain ⟨w, ew, rw'⟩ := r.get h2
  have hl := r.length
  have hn := line63
  have fin : EP X pins σ Q w s := ⟨z, H, I, rw', q⟩
  exact subscriptTail_builtinR (x := w) pl.typeIs slot_tuple_getitem.lookup
    (getItem_tuple (j := j) (Q := fun r s' => r = w ∧ EP X pins σ Q r s') pl (by omega) (by omega) (by rw [List.size_toArray, ← hl]; exact h1) (by simpa using ew) ⟨rfl, fin⟩) hs
/-! ### xs[i] = v, any sign -/
theorem Inv.lst {pins : List (Addr × Obj)} {σ : St} {H : Hp} {s : Shared} {p : Addr} {xs : List V} (I : Inv X pins σ H s) (h : H p = some (.lst xs)) :
    ∃ (its : List Value) (n : Nat), Vals xs its ∧ s.heap.get? p = some { cls := .type "list", data := .seq its.toArray n } ∧ xs.length ≤ sizeLine := by
  obtain ⟨z, its, n, r, e⟩ := I.hok p _ h
  exact ⟨its, n, r, e, z⟩
/-! ### slices -/
theorem slice_bounds (lo hi : Option Int) (n : Nat) : (sliceBounds lo hi none n).1 = ((HT.sIx n 0 lo : Nat) : Int) ∧ (sliceBounds lo hi none n).2.1 = ((HT.sIx n n hi : Nat) : Int) ∧ (sliceBounds lo hi none n).2.2 = 1 := by
  refine ⟨?_, ?_, rfl⟩
  · cases lo with
    | none => simp [sliceBounds, HT.sIx]
    | some i =>
      simp only [sliceBounds, HT.sIx, Option.getD_none, show (1 : Int) > 0 by decide, if_true]
      by_cases h : i < 0
      · simp only [h, if_true] <;> omega
      · simp only [h, if_false] <;> omega
  · cases hi with
    | none => simp [sliceBounds, HT.sIx]
    | some i =>
      simp only [sliceBounds, HT.sIx, Option.getD_none, show (1 : Int) > 0 by decide, if_true]
      by_cases h : i < 0
      · simp only [h, if_true] <;> omega
      · simp only [h, if_false] <;> omega
theorem slicePick_cut (its : List Value) (lo hi : Option Int) : slicePick its.toArray lo hi none = ((its.drop (HT.sIx its.length 0 lo)).take (HT.sIx its.length its.length hi - HT.sIx its.length 0 lo)).toArray := by
  obtain ⟨h1, h2, h3⟩ := slice_bounds lo hi its.toArray.size
  unfold slicePick
  rw [h1, h2, h3]
  simp only [sliceRange_one, pick_run, List.size_toArray] <;> rfl
/-- xs[lo:hi] of a list: a new list -/
def rSlL (K : PySem.W.Frag) : V → Option Int → Option Int → Hp → VK → Prop := fun x lo hi H Q => ∃ a xs, x = .ref a ∧ SqL K H a xs ∧ ∀ p, H p = none → Q (.ref p) (upd H p (.lst (cutV xs lo hi)))
theorem sl_list : SlR X (rSlL X.K) := by
  intro pins s σ H x v vl vu lo hi sl Q I rx hs pl pu h
  obtain ⟨a, xs, rfl, hx, q⟩ := h
  cases rx
  obtain ⟨its, r, ht, hz⟩ := I.list hx
  have hlen := r.length
  refine ⟨"list", _, slot_list_getitem.lookup, ht.isList.typeIs, ?_⟩
  refine wpAny_getItem_list_slice ht.isList hs pl pu .none (by simp) ?_ (by rw [List.size_toArray] <;> omega)
  rw [slicePick_cut, ← hlen]
  refine ⟨.ref s.heap.objs.size, _, I.laid (t' := s.toks) (o := .lst (cutV xs lo hi)) (fun b ob q => Heap.get?_push_of_some _ q) (Nat.le_refl _) ?_, rfl, q _ (I.hok.fresh (Nat.le_refl _))⟩
  exact ⟨Nat.le_trans (cutV_length xs lo hi) hz, _, 0, (r.drop (HT.sIx xs.length 0 lo)).take (HT.sIx xs.length xs.length hi - HT.sIx xs.length 0 lo), Heap.get?_push_size _ rfl⟩
/-! ### in, not in: flat items -/
def flatV : V → Bool
  | .non => true
  | .bl _ => true
  | .int _ => true
  | .str _ => true
  | _ => false
/-- == of flat values -/
def eqV : V → V → Bool
  | .non, .non => true
  | .bl a, .bl b => a == b
  | .bl a, .int b => (if a then 1 else 0) == b
  | .int a, .bl b => a == (if b then 1 else 0)
  | .int a, .int b => a == b
  | .str a, .str b => a == b
  | _, _ => false
theorem eqAt_V {A : Around} {s : Shared} {y x : V} {u v : Value} (ry : RelV y u) (rx : RelV x v) (fy : flatV y = true) (fx : flatV x = true) : SeqAt.EqAt A s u v (eqV y x) := by
  cases y with
  | non =>
    cases ry
    cases x with
    | non => cases rx; exact SeqAt.EqAt.same _
    | bl b => cases rx; exact SeqAt.EqAt.none_bool b
    | int b => obtain ⟨t, rfl⟩ := rx; exact SeqAt.EqAt.none_int b t
    | str b => obtain ⟨t, rfl⟩ := rx; exact SeqAt.EqAt.none_str b t
    | _ => exact absurd (show false = true from fx) Bool.false_ne_true
  | bl a =>
    cases ry
    cases x with
    | non => cases rx; exact SeqAt.EqAt.bool_none a
    | bl b => cases rx; exact SeqAt.EqAt.bool_bool a b
    | int b => obtain ⟨t, rfl⟩ := rx; exact SeqAt.EqAt.bool_int a b t
    | str b => obtain ⟨t, rfl⟩ := rx; exact SeqAt.EqAt.bool_str a b t
    | _ => exact absurd (show false = true from fx) Bool.false_ne_true
  | int a =>
    obtain ⟨t', rfl⟩ := ry
    cases x with
    | non => cases rx; exact SeqAt.EqAt.int_none a t'
    | bl b => cases rx; exact SeqAt.EqAt.int_bool a t' b
    | int b => obtain ⟨t, rfl⟩ := rx; exact SeqAt.EqAt.int_int a t' b t
    | str b => obtain ⟨t, rfl⟩ := rx; exact SeqAt.EqAt.int_str a t' b t
    | _ => exact absurd (show false = true from fx) Bool.false_ne_true
  | str a =>
    obtain ⟨t', rfl⟩ := ry
    cases x with
    | non => cases rx; exact SeqAt.EqAt.str_none a t'
    | bl b => cases rx; exact SeqAt.EqAt.str_bool a t' b
    | int b => obtain ⟨t, rfl⟩ := rx; exact SeqAt.EqAt.str_int a t' b t
    | str b => obtain ⟨t, rfl⟩ := rx; exact SeqAt.EqAt.str_str a t' b t
    | _ => exact absurd (show false = true from fx) Bool.false_ne_true
  | _ => exact absurd (show false = true from fy) Bool.false_ne_true
/-- the items' answers, read off the values (a value's own answer does not lean on its token) -/
def eqU (x : V) (u : Value) : Bool := match u with
  | .none => eqV .non x
  | .bool b => eqV (.bl b) x
  | .int i _ => eqV (.int i) x
  | .str z _ => eqV (.str z) x
  | _ => false
theorem eqU_of {x y : V} {u : Value} (r : RelV y u) (f : flatV y = true) : eqU x u = eqV y x := by
  cases y with
  | non => cases r; rfl
  | bl b => cases r; rfl
  | int i => obtain ⟨t, rfl⟩ := r; rfl
  | str z => obtain ⟨t, rfl⟩ := r; rfl
  | _ => exact absurd (show false = true from f) Bool.false_ne_true
theorem mem_eqAt {A : Around} {s : Shared} {x : V} {v : Value} (rx : RelV x v) (fx : flatV x = true) : ∀ {xs : List V} {us : List Value}, Vals xs us → xs.all flatV = true → ∀ u ∈ us, SeqAt.EqAt A s u v (eqU x u)
  | _, _, .nil, _ => fun u hu => by cases hu
  | y :: xs, u :: us, .cons r t, f => fun u' hu => by
    rw [List.all_cons, Bool.and_eq_true] at f
    rcases List.mem_cons.mp hu with rfl | hu
    · rw [eqU_of r f.1]; exact eqAt_V r rx f.1 fx
    · exact mem_eqAt rx fx t f.2 u' hu
/-! ### len, list(x), tuple(x) of any list or tuple that is read -/
theorem call_len_seq : CallR X (.builtin "len") (fun xs H Q => ∃ p ys, xs = [.ref p] ∧ (SqL X.K H p ys ∨ SqT X.K H p ys) ∧ Q (.int ys.length) H) := by
  intro pins s σ H xs us Q I r h
  obtain ⟨p, ys, rfl, hq, q⟩ := h
  obtain ⟨u, rfl, rx⟩ := vals1 r
  cases rx
  have hn := line63
  rcases hq with hq | hq
  · obtain ⟨its, r', pl, hz⟩ := I.list hq
    have hlen := r'.length
    exact Calls.call_len_list pl.isList (by simp only [List.size_toArray] <;> omega) ⟨.int ys.length, H, I.tok _, ⟨s.toks + 1, by rw [List.size_toArray, hlen]⟩, q⟩
  · obtain ⟨its, r', pl, hz⟩ := I.tuple hq
    have hlen := r'.length
    exact len_tuple pl (by simp only [List.size_toArray] <;> omega) ⟨.int ys.length, H, I.tok _, ⟨s.toks + 1, by rw [List.size_toArray, hlen]⟩, q⟩
theorem CallR.or {f : Value} {r r' : List V → Hp → VK → Prop} (h : CallR X f r) (h' : CallR X f r') : CallR X f (fun xs H Q => r xs H Q ∨ r' xs H Q) := by
  intro pins s σ H xs us Q I rs q
  rcases q with q | q
  · exact h pins s σ H xs us Q I rs q
  · exact h' pins s σ H xs us Q I rs q
theorem call_list_of : CallR X (.type "list") (fun xs H Q => ∃ p ys, xs = [.ref p] ∧ (SqL X.K H p ys ∨ SqT X.K H p ys) ∧ ∀ l, H l = none → Q (.ref l) (upd H l (.lst ys))) := by
  intro pins s σ H xs us Q I r h
  obtain ⟨p, ys, rfl, hq, q⟩ := h
  obtain ⟨u, rfl, rx⟩ := vals1 r
  cases rx
  have fin : ∀ (its : List Value), Vals ys its → ys.length ≤ sizeLine → ∀ (h' : Heap) (c' : Nat), (∀ b o', s.heap.get? b = some o' → h'.get? b = some o') →
      h'.get? s.heap.objs.size = some { cls := .type "list", dict := none, data := .seq its.toArray c', slots := #[] } → EP X pins σ Q (.ref s.heap.objs.size) { s with heap := h' } := fun its r' hz h' c' kp e =>
    ⟨.ref s.heap.objs.size, _, I.laid (t' := s.toks) kp (Nat.le_refl _) (show ObjOk X.prog X.w _ h' _ (.lst ys) from ⟨hz, its, c', r', e⟩), rfl, q _ (I.hok.fresh (Nat.le_refl _))⟩
  rcases hq with hq | hq
  · obtain ⟨its, r', pl, hz⟩ := I.list hq
    have hlen := r'.length
    obtain ⟨o, ho, hc, n, hd⟩ := pl.isList
    exact call_list_seq p (.inl rfl) ho hc hd (fun h' c' kp e => fin its r' hz h' c' kp e) (by simp only [List.size_toArray] <;> omega)
  · obtain ⟨its, r', pl, hz⟩ := I.tuple hq
    have hlen := r'.length
    obtain ⟨o, ho, hc, n, hd⟩ := pl
    exact call_list_seq p (.inr rfl) ho hc hd (fun h' c' kp e => fin its r' hz h' c' kp e) (by simp only [List.size_toArray] <;> omega)
/-! ### the call of a builtin's method: o.m(..) -/
/-- the value is of that builtin type -/
def tyV (K : PySem.W.Frag) (T : String) (x : V) (H : Hp) : Prop := match x with
  | .str _ => T = "str"
  | .int _ => T = "int"
  | .ref p => (T = "list" ∧ ∃ xs, SqL K H p xs) ∨ (T = "tuple" ∧ ∃ o, K.lookup p = some o ∧ o.cls = .type "tuple" ∧ o.dict = none) ∨
      (T = "dict" ∧ ((∃ kvs, H p = some (.dK kvs)) ∨ ∃ kvs, H p = some (.dT kvs))) ∨ (T = "set" ∧ ∃ S n, H p = some (.set S n))
  | _ => False
theorem tyV_is {pins : List (Addr × Obj)} {σ : St} {H : Hp} {s : Shared} {T : String} {x : V} {v : Value} (I : Inv X pins σ H s) (r : RelV x v) (ty : tyV X.K T x H) :
    s.TypeIs v T ∧ ∀ a, v = .ref a → ∃ ob, s.heap.get? a = some ob ∧ ob.dict = none := by
  cases x with
  | str z =>
    obtain ⟨t, rfl⟩ := r
    cases (show T = "str" from ty)
    exact ⟨typeIs_str s z t, fun _ e => nomatch e⟩
  | int i =>
    obtain ⟨t, rfl⟩ := r
    cases (show T = "int" from ty)
    exact ⟨typeIs_int s i t, fun _ e => nomatch e⟩
  | ref p =>
    cases r
    rcases ty with ⟨rfl, xs, hq⟩ | ⟨rfl, o, hk, hc, hd⟩ | ⟨rfl, hk⟩ | ⟨rfl, S, n, hk⟩
    · obtain ⟨its, _, pl, _⟩ := I.list hq
      refine ⟨pl.isList.typeIs, fun a e => ?_⟩
      cases e
      obtain ⟨o, n, e, c, hd, _⟩ := pl
      exact ⟨o, e, hd⟩
    · refine ⟨⟨o, I.kIn p o hk, hc⟩, fun a e => ?_⟩
      cases e
      exact ⟨o, I.kIn _ o hk, hd⟩
    · have z : ∃ o, s.heap.get? p = some o ∧ o.ExactDict := by
        rcases hk with ⟨kvs, hk⟩ | ⟨kvs, hk⟩
        · obtain ⟨_, _, _, _, o, _, _, e, ex, _⟩ := I.hok p _ hk
          exact ⟨o, e, ex⟩
        · obtain ⟨_, _, _, _, o, _, _, e, ex, _⟩ := I.hok p _ hk
          exact ⟨o, e, ex⟩
      obtain ⟨o, e, ex⟩ := z
      refine ⟨⟨o, e, ex.1⟩, fun a e2 => ?_⟩
      cases e2
      exact ⟨o, e, ex.2.1⟩
    · obtain ⟨o, _, _, _, e, ex, _⟩ := I.hok p _ hk
      refine ⟨⟨o, e, ex.1⟩, fun a e2 => ?_⟩
      cases e2
      exact ⟨o, e, ex.2.1⟩
  | _ => exact False.elim ty
def tBM0 (K : PySem.W.Frag) (T : String) (r : V → List V → Hp → VK → Prop) (to : TE) : TE := fun σ H Q => to σ H fun x H1 => tyV K T x H1 ∧ r x [] H1 Q
def tBM (K : PySem.W.Frag) (T : String) (r : V → List V → Hp → VK → Prop) (to : TE) (t : TA) : TE := fun σ H Q => to σ H fun x H1 => tyV K T x H1 ∧ t σ H1 fun xs H2 => r x xs H2 Q
variable {o e : Expr} {es : List Expr} {to : TE} {t : TA} {name : Str} {apos cpos : Pos} {T id : String} {r : V → List V → Hp → VK → Prop}
theorem pe_bm0 (pa : PlainAttrs T) (slot : Slot T name id) (hty : typeOf (.builtin id) = pure (.type "method_descriptor")) (hm : MtR X id r) (ho : PE X o to)
    (hbase : attributeBase o name X.env (eval o X.env) = eval o X.env := by rfl) (hline : (apos.endLine == cpos.line) = true := by rfl) : PE X (.Call (.Attribute o name apos) [] [] cpos) (tBM0 X.K T r to) := by
  intro pins s σ H Q I h
  refine wpAny_Call_method0_late hbase hline (thn (ho pins s σ H _ I h) fun v s1 ⟨x, H1, I1, r1, ty, q1⟩ => ?_)
  obtain ⟨h1, h2⟩ := tyV_is I1 r1 ty
  exact ⟨T, id, pa, slot, hty, h1, h2, Calls.callWith_builtin rfl (PySem.evalArgs_none (hm pins s1 σ H1 x [] v [] Q I1 r1 .nil q1))⟩
theorem pe_bm (pa : PlainAttrs T) (slot : Slot T name id) (hty : typeOf (.builtin id) = pure (.type "method_descriptor")) (hm : MtR X id r) (ho : PE X o to) (ha : PA X (e :: es) t)
    (hbase : attributeBase o name X.env (eval o X.env) = eval o X.env := by rfl)
    (hfew : ((backTo cpos (starEach (e :: es) X.env)).all (fun x => !x.1) && (backToKw cpos (keywordEach [] X.env)).all (fun x => x.1.isSome)
      && decide ((e :: es).length + ([] : List Keyword).length + (if ([] : List Keyword).isEmpty then 0 else 1) < 30)) = true := by rfl)
    (hline : (apos.endLine == cpos.line) = true := by rfl) (hs : starEach (e :: es) X.env = (false, eval e X.env) :: starEach es X.env := by rfl) (hplain : (backTo cpos (starEach es X.env)).any (·.1) = false := by rfl) :
    PE X (.Call (.Attribute o name apos) (e :: es) [] cpos) (tBM X.K T r to t) := by
  intro pins s σ H Q I h
  refine wpAny_Call_method_late hbase hfew hline rfl (thn (ho pins s σ H _ I h) fun v s1 ⟨x, H1, I1, r1, ty, q1⟩ => ?_)
  obtain ⟨h1, h2⟩ := tyV_is I1 r1 ty
  refine ⟨T, id, pa, slot, hty, h1, h2, ?_⟩
  have hA := ha cpos pins s1 σ H1 _ I1 q1
  rw [hs] at hA ⊢
  refine Calls.callWith_builtin (by show (false || (backTo cpos (starEach es X.env)).any (·.1)) = false; rw [hplain] <;> rfl) (Calls.evalArgs_plain ?_)
  exact thn hA fun us s2 ⟨vs, H2, I2, r2, q2⟩ => hm pins s2 σ H2 x vs v us Q I2 r1 r2 q2
/- xs.append(e), list.index on a module's tuple .. are MtR facts of 06m -/
end
end L2
namespace L2
open PySem PySem.Spec PyProof.Rows
def MtM (X : Cx) (id : String) (r : V → List V → Hp → VK → Prop) : Prop :=
  ∀ (pins : List (Addr × Obj)) (s : Shared) (σ : St) (H : Hp) (x : V) (xs : List V) (v : Value) (us : List Value) (Q : VK), Inv X pins σ H s → RelV x v → Vals xs us → r x xs H Q →
    wpAny (model X.prog X.w) X.A (call (.builtin id) (v :: us)) (EP X pins σ Q) X.xe s
/-! ### lists of values -/
theorem Vals.one : ∀ {x : V} {us : List Value}, Vals [x] us → ∃ u, us = [u] ∧ RelV x u
  | _, _, .cons r .nil => ⟨_, rfl, r⟩
theorem Vals.two : ∀ {x y : V} {us : List Value}, Vals [x, y] us → ∃ u v, us = [u, v] ∧ RelV x u ∧ RelV y v
  | _, _, _, .cons r (.cons q .nil) => ⟨_, _, rfl, r, q⟩
theorem Vals.zero : ∀ {us : List Value}, Vals [] us → us = []
  | _, .nil => rfl
theorem Vals.dropLast {xs : List V} {us : List Value} (h : Vals xs us) : Vals xs.dropLast us.dropLast := by
  induction h with
  | nil => exact .nil
  | cons r t ih =>
    cases t with
    | nil => exact .nil
    | cons q t' => exact .cons r ih
theorem Vals.eraseIdx : ∀ {xs : List V} {us : List Value} (i : Nat), Vals xs us → Vals (xs.eraseIdx i) (us.eraseIdx i)
  | _, _, _, .nil => .nil
  | _, _, 0, .cons _ t => t
  | _, _, i + 1, .cons r t => .cons r (Vals.eraseIdx i t)
theorem Vals.reverse {xs : List V} {us : List Value} (h : Vals xs us) : Vals xs.reverse us.reverse := by
  induction h with
  | nil => exact .nil
  | cons r t ih => rw [List.reverse_cons, List.reverse_cons]; exact Vals.append ih (.cons r .nil)
theorem Vals.rep {xs : List V} {us : List Value} (h : Vals xs us) : ∀ k : Nat, Vals (List.replicate k xs).flatten (List.replicate k us).flatten
  | 0 => .nil
  | k + 1 => by
    rw [List.replicate_succ, List.replicate_succ, List.flatten_cons, List.flatten_cons]
    exact Vals.append h (Vals.rep h k)
theorem erase_last {α : Type} (l : List α) : l.eraseIdx (l.length - 1) = l.dropLast := by
  induction l with
  | nil => rfl
  | cons a r ih =>
    cases r with
    | nil => rfl
    | cons b r =>
      have e : (a :: b :: r).length - 1 = ((b :: r).length - 1) + 1 := by
        have h1 : (a :: b :: r).length = r.length + 2 := rfl
        have h2 : (b :: r).length = r.length + 1 := rfl
        omega
      rw [e, List.eraseIdx_cons_succ, ih]
      all_goals rfl
theorem len_erase {α : Type} : ∀ (l : List α) (i : Nat), (l.eraseIdx i).length ≤ l.length
  | [], _ => Nat.le_refl _
  | _ :: _, 0 => Nat.le_succ _
  | _ :: r, i + 1 => Nat.succ_le_succ (len_erase r i)
theorem foldl_rep (its : List Value) : ∀ (k : Nat) (acc : List Value),
    List.foldl (fun x1 x2 => x1 ++ x2) acc.toArray (List.replicate k its.toArray) = (acc ++ (List.replicate k its).flatten).toArray
  | 0, acc => by simp
  | k + 1, acc => by
    have e : acc.toArray ++ its.toArray = (acc ++ its).toArray := by simp
    have e2 : (acc ++ its) ++ (List.replicate k its).flatten = acc ++ (List.replicate (k + 1) its).flatten := by
      rw [List.replicate_succ, List.flatten_cons, List.append_assoc]
    rw [← e2, ← foldl_rep its k (acc ++ its), ← e, List.replicate_succ, List.foldl_cons]
section
variable {X : Cx} {pins : List (Addr × Obj)} {σ : St} {H : Hp} {s : Shared} {l b : Addr} {xs ys zs : List V}
/-! ### the two steps: a tracked list is rewritten, a new list is laid -/
theorem Inv.lset {its its' : List Value} {n : Nat} {f : Array Value → Array Value} {t' : Nat} (I : Inv X pins σ H s) (hH : H l = some (.lst xs))
    (e : s.heap.get? l = some { cls := .type "list", data := .seq its.toArray n }) (hf : f its.toArray = its'.toArray) (hv : Vals ys its') (hz : ys.length ≤ sizeLine) :
    Inv X pins σ (upd H l (.lst ys)) { s with heap := s.heap.update l (Obj.mapSeq f), toks := t' } := by
  have q := PySem.IsL.update e f
  rw [hf] at q
  refine I.write (x := l) (e := l) (by rw [hH]; exact trivial) (.inl rfl) (fun b' u hb hu => (Heap.get?_update_other s.heap (Obj.mapSeq f) (Ne.symm hb)).trans hu) ⟨_, q⟩ ?_
  exact ⟨hz, its', _, hv, q⟩
theorem Inv.lnew {its : List Value} {t' : Nat} (I : Inv X pins σ H s) (hv : Vals ys its) (hz : ys.length ≤ sizeLine) :
    Inv X pins σ (upd H s.heap.objs.size (.lst ys)) { s with heap := s.heap.push { cls := .type "list", data := .seq its.toArray }, toks := t' } :=
  I.laid (fun _ _ q => Heap.get?_push_of_some _ q) (Nat.le_refl _) ⟨hz, its, 0, hv, Heap.get?_push_size _ rfl⟩
theorem Inv.fresh (I : Inv X pins σ H s) : H s.heap.objs.size = none := I.hok.fresh (Nat.le_refl _)
theorem Inv.lstM (I : Inv X pins σ H s) (hH : H l = some (.lst xs)) : xs.length ≤ sizeLine ∧ ∃ (its : List Value) (n : Nat), Vals xs its ∧ xs.length = its.length ∧ s.heap.get? l = some { cls := .type "list", data := .seq its.toArray n } := by
  obtain ⟨z, its, n, r, e⟩ := I.hok l _ hH
  exact ⟨z, its, n, r, r.length, e⟩
theorem notLongL {n : Nat} (h : n ≤ sizeLine) : Builtin.List.listTooLong n = false := by
  unfold Builtin.List.listTooLong
  exact decide_eq_false (by omega)
end
section
variable {X : Cx}
/-! ### methods -/
def rAppend : V → List V → Hp → VK → Prop := fun x vs H Q => ∃ l xs y, x = .ref l ∧ vs = [y] ∧ H l = some (.lst xs) ∧ xs.length < sizeLine ∧ Q .non (upd H l (.lst (xs ++ [y])))
theorem mt_append : MtM X "list.append" rAppend := by
  intro pins s σ H x vs v us Q I rx rv h
  obtain ⟨l, xs, y, rfl, rfl, hH, hz, q⟩ := h
  cases rx
  obtain ⟨u, rfl, ru⟩ := rv.one
  obtain ⟨z, its, n, r, hl, e⟩ := I.lstM hH
  refine call_meets F.slot_list_append ⟨_, e, rfl⟩ F.entry_list_append (F.args_list_append_2 _ _) (PySem.list_append l its.toArray n u (by rw [List.size_toArray]; omega)) ⟨e, ?_⟩
  refine ⟨.non, _, I.lset (its' := its ++ [u]) hH e (by simp) (r.append (.cons ru .nil)) ?_, rfl, q⟩
  rw [List.length_append, List.length_singleton]
  omega
def rExtend : V → List V → Hp → VK → Prop := fun x vs H Q => ∃ l b xs zs, x = .ref l ∧ vs = [.ref b] ∧ H l = some (.lst xs) ∧ H b = some (.lst zs) ∧ xs.length + zs.length ≤ sizeLine ∧ Q .non (upd H l (.lst (xs ++ zs)))
theorem mt_extend : MtM X "list.extend" rExtend := by
  intro pins s σ H x vs v us Q I rx rv h
  obtain ⟨l, b, xs, zs, rfl, rfl, hH, hB, hz, q⟩ := h
  cases rx
  obtain ⟨u, rfl, ru⟩ := rv.one
  cases ru
  obtain ⟨z, its, n, r, hl, e⟩ := I.lstM hH
  obtain ⟨z2, its2, n2, r2, hl2, e2⟩ := I.lstM hB
  have hsz : its.toArray.size + its2.toArray.size ≤ sizeLine := by rw [List.size_toArray, List.size_toArray]; omega
  have hlong : ¬ (!its.toArray.isEmpty && Builtin.List.listTooLong (its.toArray.size + its2.toArray.size)) = true := by
    rw [notLongL hsz, Bool.and_false]
    exact Bool.false_ne_true
  refine call_meets F.slot_list_extend ⟨_, e, rfl⟩ F.entry_list_extend (F.args_list_extend_2 _ _)
    (AutoSeq1.list_extend_list_list_0 l its.toArray n b its2.toArray n2 hlong (by rw [List.size_toArray]; omega) (by omega)) ⟨e, e2, ?_⟩
  refine ⟨.non, _, I.lset (its' := its ++ its2) hH e (by simp) (r.append r2) ?_, rfl, q⟩
  rw [List.length_append]
  omega
def rPop : V → List V → Hp → VK → Prop := fun x vs H Q => ∃ l xs y, x = .ref l ∧ vs = [] ∧ H l = some (.lst xs) ∧ xs[xs.length - 1]? = some y ∧ Q y (upd H l (.lst xs.dropLast))
theorem mt_pop : MtM X "list.pop" rPop := by
  intro pins s σ H x vs v us Q I rx rv h
  obtain ⟨l, xs, y, rfl, rfl, hH, hy, q⟩ := h
  cases rx
  have hus := rv.zero
  subst hus
  obtain ⟨z, its, n, r, hl, e⟩ := I.lstM hH
  obtain ⟨u, hu, ru⟩ := r.get hy
  have hy' : its.toArray[its.toArray.size - 1]? = some u := by
    show its.toArray[its.length - 1]? = some u
    rw [← Array.getElem?_toList, ← hl]
    exact hu
  refine call_meets F.slot_list_pop ⟨_, e, rfl⟩ F.entry_list_pop (F.args_list_pop_1 _) (MeetsSeq.list_pop_last l its.toArray n u hy' (by rw [List.size_toArray]; omega)) ⟨e, ?_⟩
  refine ⟨y, _, I.lset (its' := its.dropLast) hH e ?_ r.dropLast ?_, ru, q⟩
  · show its.toArray.eraseIdxIfInBounds (its.toArray.size - 1) = its.dropLast.toArray
    rw [List.size_toArray, List.eraseIdxIfInBounds_toArray, erase_last]
  · rw [List.length_dropLast]
    omega
def rPopAt : V → List V → Hp → VK → Prop := fun x vs H Q => ∃ l xs i k y, x = .ref l ∧ vs = [.int i] ∧ H l = some (.lst xs) ∧ -(2 ^ 63) ≤ i ∧ i < 2 ^ 63 ∧ seqIndex? i xs.length = some k ∧ xs[k]? = some y ∧ Q y (upd H l (.lst (xs.eraseIdx k)))
theorem mt_popAt : MtM X "list.pop" rPopAt := by
  intro pins s σ H x vs v us Q I rx rv h
  obtain ⟨l, xs, i, k, y, rfl, rfl, hH, h1, h2, hk, hy, q⟩ := h
  cases rx
  obtain ⟨u, rfl, ru⟩ := rv.one
  obtain ⟨t, rfl⟩ := ru
  obtain ⟨z, its, n, r, hl, e⟩ := I.lstM hH
  obtain ⟨w, hw, rw'⟩ := r.get hy
  refine call_meets F.slot_list_pop ⟨_, e, rfl⟩ F.entry_list_pop (F.args_list_pop_2 _ _)
    (MeetsSeq.list_pop_at l its.toArray n i t k w (fitsIndex_both h1 h2) (by rw [List.size_toArray, ← hl]; exact hk) (by rw [← Array.getElem?_toList]; exact hw) (by rw [List.size_toArray]; omega)) ⟨e, ?_⟩
  refine ⟨y, _, I.lset (its' := its.eraseIdx k) hH e ?_ (r.eraseIdx k) ?_, rw', q⟩
  · show its.toArray.eraseIdxIfInBounds k = (its.eraseIdx k).toArray
    rw [List.eraseIdxIfInBounds_toArray]
  · have := len_erase xs k
    omega
/-! ### list + list, list += list, list * int -/
def rCat : R2 := fun x y H Q => ∃ l b xs zs, x = .ref l ∧ y = .ref b ∧ H l = some (.lst xs) ∧ H b = some (.lst zs) ∧ xs.length + zs.length ≤ sizeLine ∧ ∀ p, H p = none → Q (.ref p) (upd H p (.lst (xs ++ zs)))
theorem op_cat : OpR X (binaryOp .Add) rCat := by
  intro pins s σ H x y v u Q I rx ry h
  obtain ⟨l, b, xs, zs, rfl, rfl, hH, hB, hz, q⟩ := h
  cases rx
  cases ry
  obtain ⟨z, its, n, r, hl, e⟩ := I.lstM hH
  obtain ⟨z2, its2, n2, r2, hl2, e2⟩ := I.lstM hB
  refine PySem.P.add_list e e2 ?_ (by rw [List.size_toArray, List.size_toArray]; omega)
  have ea : its.toArray ++ its2.toArray = (its ++ its2).toArray := by simp
  rw [ea]
  exact ⟨.ref _, _, I.lnew (t' := s.toks) (r.append r2) (by rw [List.length_append]; omega), rfl, q _ I.fresh⟩
/-- a list times an int (a negative one is nothing) -/
def rRep : R2 := fun x y H Q => ∃ l k xs, x = .ref l ∧ y = .int k ∧ H l = some (.lst xs) ∧ -(2 ^ 63) ≤ k ∧ k < 2 ^ 63 ∧ xs.length * k.toNat ≤ sizeLine ∧
  ∀ p, H p = none → Q (.ref p) (upd H p (.lst (List.replicate k.toNat xs).flatten))
theorem len_rep {α : Type} (xs : List α) (k : Nat) : (List.replicate k xs).flatten.length = k * xs.length := by
  induction k with
  | zero => simp
  | succ k ih => rw [List.replicate_succ, List.flatten_cons, List.length_append, ih, Nat.succ_mul, Nat.add_comm]
theorem op_rep : OpR X (binaryOp .Mult) rRep := by
  intro pins s σ H x y v u Q I rx ry h
  obtain ⟨l, k, xs, rfl, rfl, hH, h1, h2, hz, q⟩ := h
  cases rx
  obtain ⟨t, rfl⟩ := ry
  obtain ⟨z, its, n, r, hl, e⟩ := I.lstM hH
  have hlen : its.toArray.size * k.toNat ≤ sizeLine := by rw [List.size_toArray, ← hl]; exact hz
  have hcap : ¬ its.toArray.size * k.toNat > (2 ^ 63 - 1) / 8 := by
    have : (sizeLine : Nat) ≤ (2 ^ 63 - 1) / 8 := by decide
    omega
  have hfit : ¬ (!Builtin.List.listFitsIndex k) = true := by
    rw [fitsIndex_both h1 h2]
    exact Bool.false_ne_true
  have hlong : ¬ Builtin.List.listTooLong (its.toArray.size * k.toNat) = true := by
    rw [notLongL hlen]
    exact Bool.false_ne_true
  have hnew : List.foldl (fun x1 x2 => x1 ++ x2) #[] (List.replicate (if its.toArray.isEmpty = true then 0 else k.toNat) its.toArray) = (List.replicate k.toNat its).flatten.toArray := by
    have f0 : ∀ m : Nat, List.foldl (fun x1 x2 => x1 ++ x2) #[] (List.replicate m its.toArray) = (List.replicate m its).flatten.toArray := fun m => by
      have := foldl_rep its m []
      rw [List.nil_append] at this
      exact this
    rw [f0]
    cases its with
    | nil => simp
    | cons a r' => rw [if_neg (by simp)]
  refine wpAny_binaryOp_repeat_ref (T := "list") (U := "int") (by decide) ⟨_, e, rfl⟩ (fun s' => typeIs_int s' k t) noFill_list_mul F.fills_int_mul F.slot_int_rmul repeat_list F.slot_int_index.lookup
    (call_meets F.slot_int_rmul (typeIs_int s k t) F.entry_int_rmul (F.args_int_rmul_2 _ _) (int___rmul___int_list k t l its.toArray n)
      ⟨e, rfl, ⟨_, e, rfl⟩, call_meets F.slot_list_mul ⟨_, e, rfl⟩ F.entry_list_mul (F.args_list_mul_2 _ _) (AutoListH.list___mul___list_int_3 l its.toArray n k t hfit hcap hlong) ⟨e, ?_⟩⟩)
  rw [hnew]
  exact ⟨.ref _, _, I.lnew (t' := s.toks) (r.rep k.toNat) (by rw [len_rep, Nat.mul_comm]; exact hz), rfl, q _ I.fresh⟩
/-! ### del xs[i] -/
end
/-! ### xs[a:b] = ys -/
section
variable {prog : Program} {w : World} {A : Around} {E : Value → Shared → Prop} {s : Shared}
end
section
variable {X : Cx}
end
end L2
namespace L2
open PySem PySem.Spec PyProof.Rows
theorem Vals.ints : ∀ {ns : List Int} {us : List Value}, Vals (ns.map V.int) us → IntsAre us ns
  | [], us, h => by
    rw [List.map_nil] at h
    cases h
    exact IntsAre.nil
  | n :: ns, us, h => by
    rw [List.map_cons] at h
    cases h with
    | cons r t =>
      obtain ⟨k, rfl⟩ := r
      exact IntsAre.cons n k (Vals.ints t)
theorem vals_of_ints : ∀ {us : List Value} {ns : List Int}, IntsAre us ns → Vals (ns.map V.int) us
  | _, _, .nil => by rw [List.map_nil]; exact Paired.nil
  | _, _, .cons n t h => by rw [List.map_cons]; exact Paired.cons (show RelV (V.int n) (Value.int n t) from ⟨t, rfl⟩) (vals_of_ints h)
theorem Vals.strs : ∀ {xs : List Str} {us : List Value}, Vals (xs.map V.str) us → StrsAre us xs
  | [], us, h => by
    rw [List.map_nil] at h
    cases h
    exact StrsAre.nil
  | x :: xs, us, h => by
    rw [List.map_cons] at h
    cases h with
    | cons r t =>
      obtain ⟨k, rfl⟩ := r
      exact StrsAre.cons x k (Vals.strs t)
theorem Vals.ref1 {a : Addr} {us : List Value} (r : Vals [V.ref a] us) : us = [Value.ref a] := by
  cases r with
  | cons r t =>
    cases t
    cases r
    rfl
/-! ### the library's walks over a list of ints, kept objects alone -/
section
variable {prog : Program} {w : World} {A : Around} {E : Value → Shared → Prop} {s : Shared} {l : Addr} {its : List Value} {ns : List Int} {Q : Value → Shared → Prop}
theorem sum_raw (hh : A.handled = none) (hl : s.heap.IsList l its.toArray) (hi : IntsAre its ns)
    (h : ∀ h' tk t', (∀ b o, s.heap.get? b = some o → h'.get? b = some o) → Q (.int ns.sum t') { s with heap := h', toks := tk }) : wpAny (model prog w) A (call (.builtin "sum") [.ref l]) Q E s := by
  obtain ⟨xs, e⟩ := hi.allInts.items
  have hn : numsOf (intItems xs).toList = ns := by rw [← e]; exact hi.numsOf
  rw [nums_intItems] at hn
  rw [e] at hl
  refine PySem.sum_intListG hh hl fun h' tk t' hk => ?_
  have := h h' tk t' hk
  rw [preSum_eq, List.take_of_length_le (by simp), hn]; exact this
theorem max_raw (hh : A.handled = none) (hl : s.heap.IsList l its.toArray) (hi : IntsAre its ns) (hne : 0 < ns.length)
    (h : ∀ h' tk M t', (∀ b o, s.heap.get? b = some o → h'.get? b = some o) → M ∈ ns → (∀ a, a ∈ ns → a ≤ M) → Q (.int M t') { s with heap := h', toks := tk }) : wpAny (model prog w) A (call (.builtin "max") [.ref l]) Q E s := by
  obtain ⟨xs, e⟩ := hi.allInts.items
  have hn : numsOf (intItems xs).toList = ns := by rw [← e]; exact hi.numsOf
  rw [nums_intItems] at hn
  subst hn
  rw [e] at hl
  have hsz : 0 < xs.size := by simpa using hne
  refine PySem.max_intList hh hl hsz fun v h' tk hv hk => ?_
  obtain ⟨t, rfl⟩ := intItems_at hv
  obtain ⟨h1, h2⟩ := argBest_gt (numAt xs) (xs.size - 1)
  refine h h' tk _ t hk ?_ fun a ha => ?_
  · rw [numAt_eq]; exact PySem.getD_mem (by rw [List.length_map, Array.length_toList]; omega)
  · obtain ⟨j, hj, rfl⟩ := mem_getD ha
    rw [List.length_map, Array.length_toList] at hj
    rw [← numAt_eq]; exact h2 j (by omega)
end
/-! ### the calls, by values (CallR of 03t; MtR of 06l) -/
section
variable {X : Cx}
/-- sum(xs) of a list of ints -/
def rSum (K : PySem.W.Frag) : List V → Hp → VK → Prop := fun vs H Q => ∃ (a : Addr) (ns : List Int), vs = [V.ref a] ∧ SqL K H a (ns.map V.int) ∧ Q (.int ns.sum) H
/-- max(xs), min(xs) of a list of ints -/
def rMax (K : PySem.W.Frag) : List V → Hp → VK → Prop := fun vs H Q => ∃ (a : Addr) (ns : List Int), vs = [V.ref a] ∧ SqL K H a (ns.map V.int) ∧ 0 < ns.length ∧ ∀ m, m ∈ ns → (∀ y, y ∈ ns → y ≤ m) → Q (.int m) H
theorem cr_sum (hc : X.calm = true) : CallR X (.builtin "sum") (rSum X.K) := by
  intro pins s σ H vs us Q I r h
  obtain ⟨a, ns, rfl, hs, q⟩ := h
  obtain ⟨its, rv, hl, _⟩ := I.list hs
  rw [Vals.ref1 r]
  exact sum_raw (I.ok.hd hc) hl.isList rv.ints fun h' tk t' hk => ⟨.int _, H, I.kept hk, ⟨_, rfl⟩, q⟩
theorem cr_max (hc : X.calm = true) : CallR X (.builtin "max") (rMax X.K) := by
  intro pins s σ H vs us Q I r h
  obtain ⟨a, ns, rfl, hs, hne, q⟩ := h
  obtain ⟨its, rv, hl, _⟩ := I.list hs
  rw [Vals.ref1 r]
  exact max_raw (I.ok.hd hc) hl.isList rv.ints hne fun h' tk m t' hk h1 h2 => ⟨.int _, H, I.kept hk, ⟨_, rfl⟩, q m h1 h2⟩
/-! sorted, sort (fewer than 64 items: the library's own bound) -/
def rSorted (K : PySem.W.Frag) : List V → Hp → VK → Prop := fun vs H Q => ∃ (a : Addr) (ns : List Int), vs = [V.ref a] ∧ SqL K H a (ns.map V.int) ∧ ns.length < 64 ∧
  ∀ (ns' : List Int) (p : Addr), ns'.Perm ns → ns'.Pairwise (· ≤ ·) → H p = none → Q (.ref p) (upd H p (.lst (ns'.map V.int)))
theorem small64 {n : Nat} (h : n < 64) : n ≤ sizeLine := by rw [sizeLine_eq]; omega
theorem cr_sorted : CallR X (.builtin "sorted") (rSorted X.K) := by
  intro pins s σ H vs us Q I r h
  obtain ⟨a, ns, rfl, hs, h64, q⟩ := h
  obtain ⟨its, rv, hl, _⟩ := I.list hs
  rw [Vals.ref1 r]
  have hi := rv.ints
  refine PyProof.Rows.sorted_ints hl.isList hi (by rw [hi.length]; exact h64) fun out ns' h1 h2 h3 => ?_
  obtain ⟨ep, he'⟩ := PyProof.Rows.sortedAll_at s.heap its out
  have hlen : (ns'.map V.int).length ≤ sizeLine := by rw [List.length_map, h2.length_eq]; exact small64 h64
  exact ⟨.ref _, upd H (s.heap.objs.size + 1) (.lst (ns'.map V.int)), I.laid (t' := s.toks) (fun _ _ => PyProof.Rows.sortedAll_old) (Nat.le_succ _) ⟨hlen, out.toList, ep, vals_of_ints h1, he'⟩, rfl, q ns' _ h2 h3 (I.hok.fresh (Nat.le_succ _))⟩
end
/-! ### list.index, flat items -/
section
variable {X : Cx}
def rIndex (K : PySem.W.Frag) : V → List V → Hp → VK → Prop := fun x xs H Q => ∃ (a : Addr) (ys : List V) (y : V) (j : Nat) (z : V), x = V.ref a ∧ xs = [y] ∧ SqL K H a ys ∧ flatV y = true ∧ ys.all flatV = true ∧ ys[j]? = some z ∧ eqV z y = true ∧
  (∀ (m : Nat) (z' : V), m < j → ys[m]? = some z' → eqV z' y = false) ∧ Q (.int (j : Nat)) H
theorem flat_at {ys : List V} (f : ys.all flatV = true) {j : Nat} {z : V} (h : ys[j]? = some z) : flatV z = true := List.all_eq_true.mp f z (List.mem_of_getElem? h)
theorem mt_index : MtR X "list.index" (rIndex X.K) := by
  intro pins s σ H x xs v us Q I rx rxs h
  obtain ⟨a, ys, y, j, z, rfl, rfl, hs, fy, fys, hz, hzj, hno, q⟩ := h
  cases rx
  cases rxs with
  | cons ry rt =>
    rename_i uy ut
    cases rt
    obtain ⟨its, rv, ⟨⟨cls, dd, data, sl⟩, n, ho, hc, hdn, hd⟩, hlen⟩ := I.list hs
    simp only at hc hd
    subst hc hd
    obtain ⟨u, hu, ru⟩ := rv.get hz
    obtain ⟨hjl, hje⟩ := List.getElem?_eq_some_iff.mp hu
    have hvl := rv.length
    have hj : j < its.toArray.size := by simpa using hjl
    have hsl := sizeLine_eq
    refine call_meets PySem.F.slot_list_index ⟨_, ho, rfl⟩ PySem.F.entry_list_index (PySem.F.args_list_index_2 _ _)
      (SeqAt.list_indexAt a its.toArray n dd sl uy (eqU y) j hj (by omega) ?_ ?_) ⟨ho, fun u' hu' => mem_eqAt ry fy rv fys u' (by simpa using hu'), ?_⟩
    · have e1 : its.toArray[j] = u := by simpa using hje
      rw [e1, eqU_of ru (flat_at fys hz)]
      exact hzj
    · intro m hm hmj
      have hml : m < its.length := by simpa using hm
      have hmy : m < ys.length := by omega
      have hy' : ys[m]? = some ys[m] := List.getElem?_eq_getElem hmy
      obtain ⟨u2, hu2, ru2⟩ := rv.get hy'
      obtain ⟨_, hme⟩ := List.getElem?_eq_some_iff.mp hu2
      have e1 : its.toArray[m] = u2 := by simpa using hme
      rw [e1, eqU_of ru2 (flat_at fys hy')]
      exact hno m _ hmj hy'
    · exact ⟨.int (j : Nat), H, I.tok _, ⟨_, rfl⟩, q⟩
end
/-! ### type(x) of an own instance; is, is not of a module's class -/
section
variable {X : Cx}
end
/-! ### any(xs), all(xs) of a list of bools -/
section
variable {X : Cx}
end
/-! ### == and != of data at any depth: none, bools, ints, texts, lists, tuples -/
mutual
inductive Dp (K : PySem.W.Frag) (H : Hp) : V → PyData → Prop
  | non : Dp K H .non .none
  | bl (b : Bool) : Dp K H (.bl b) (.bool b)
  | int (i : Int) : Dp K H (.int i) (.int i)
  | str (x : Str) : Dp K H (.str x) (.str x)
  | lst {a : Addr} {xs : List V} {ds : List PyData} : SqL K H a xs → DpAll K H xs ds → Dp K H (.ref a) (.list ds)
  | tup {a : Addr} {xs : List V} {ds : List PyData} : SqT K H a xs → DpAll K H xs ds → Dp K H (.ref a) (.tuple ds)
inductive DpAll (K : PySem.W.Frag) (H : Hp) : List V → List PyData → Prop
  | nil : DpAll K H [] []
  | cons {v : V} {vs : List V} {d : PyData} {ds : List PyData} : Dp K H v d → DpAll K H vs ds → DpAll K H (v :: vs) (d :: ds)
end
section
variable {X : Cx} {pins : List (Addr × Obj)} {σ : St} {H : Hp} {s : Shared}
mutual
theorem Dp.reads (I : Inv X pins σ H s) : ∀ (d : PyData) (v : V) (u : Value), Dp X.K H v d → RelV v u → ∃ as, Reads s.heap u d as
  | .none, _, _, h, r => by
    cases h
    cases r
    exact ⟨_, Reads.none⟩
  | .bool b, _, _, h, r => by
    cases h
    cases r
    exact ⟨_, Reads.bool b⟩
  | .int i, _, _, h, r => by
    cases h
    obtain ⟨t, rfl⟩ := r
    exact ⟨_, Reads.int i t⟩
  | .str x, _, _, h, r => by
    cases h
    obtain ⟨t, rfl⟩ := r
    exact ⟨_, Reads.str x t⟩
  | .list ds, _, _, h, r => by
    cases h with
    | lst hs ha =>
      cases r
      obtain ⟨its, rv, ⟨o, n, ho, hc, _, hd⟩, _⟩ := I.list hs
      obtain ⟨as, hr⟩ := Dp.readsAll I ds _ its ha rv
      exact ⟨_, Reads.list ho hc hd hr⟩
  | .tuple ds, _, _, h, r => by
    cases h with
    | tup hs ha =>
      cases r
      obtain ⟨its, rv, ⟨o, ho, hc, n, hd⟩, _⟩ := I.tuple hs
      obtain ⟨as, hr⟩ := Dp.readsAll I ds _ its ha rv
      exact ⟨_, Reads.tuple ho hc hd hr⟩
  | .dict _, _, _, h, _ => by cases h
theorem Dp.readsAll (I : Inv X pins σ H s) : ∀ (ds : List PyData) (vs : List V) (us : List Value), DpAll X.K H vs ds → Vals vs us → ∃ as, ReadsAll s.heap us ds as
  | [], _, _, h, r => by
    cases h
    cases r
    exact ⟨_, ReadsAll.nil⟩
  | d :: ds, _, _, h, r => by
    cases h with
    | cons h1 h2 =>
      cases r with
      | cons r1 r2 =>
        obtain ⟨as, q1⟩ := Dp.reads I d _ _ h1 r1
        obtain ⟨bs, q2⟩ := Dp.readsAll I ds _ _ h2 r2
        exact ⟨_, ReadsAll.cons q1 q2⟩
end
end
section
variable {X : Cx}
end
end L2
namespace L2
open PySem PySem.Spec PyProof.Rows
abbrev CellAt (h : Heap) (c : Addr) (v : Option Value) : Prop := h.IsCell c v
def relS (scope sc : Scope) : Scope :=
  { scope with names := scope.names.map fun (n, k) => if (k == .free && sc.kind == .function && sc.names.lookup n == some .cell) then (n, .cell) else (n, k) }
def cloFrom (cells : List (Str × Addr)) : List (Str × NameKind) → List (Str × Addr) → List (Str × Addr)
  | [], acc => acc
  | (n, k) :: r, acc => if k == .free then cloFrom cells r ((n, (cells.lookup n).getD 0) :: acc) else cloFrom cells r acc
theorem closure_loop (env : Env) (f : Str × NameKind → List (Str × Addr) → Sem (ForInStep (List (Str × Addr))))
    (hf : ∀ n k c, f (n, k) c = if k == .free then (do let a ← cellOf env n; pure (.yield ((n, a) :: c))) else pure (.yield c)) :
    ∀ (names : List (Str × NameKind)) (acc : List (Str × Addr)), (∀ y ∈ names, y.2 = .free → ∃ c, env.cells.lookup y.1 = some c) → forIn names acc f = pure (cloFrom env.cells names acc)
  | [], acc, _ => by rw [List.forIn_nil]; rfl
  | (n, k) :: r, acc, h => by
    rw [List.forIn_cons, hf]
    have ih := fun acc => closure_loop env f hf r acc fun y hy => h y (List.mem_cons_of_mem _ hy)
    unfold cloFrom
    by_cases hk : (k == NameKind.free) = true
    · rw [if_pos hk, if_pos hk]
      obtain ⟨c, hc⟩ := h (n, k) List.mem_cons_self (by simpa using hk)
      have e : cellOf env n = pure c := by unfold cellOf; rw [hc]
      rw [e]
      have e2 : (env.cells.lookup n).getD 0 = c := by rw [hc]; rfl
      rw [e2]
      exact ih _
    · rw [if_neg hk, if_neg hk]
      exact ih _
theorem closure_ok {scope : Scope} {env : Env} (h : ∀ y ∈ scope.names, y.2 = .free → ∃ c, env.cells.lookup y.1 = some c) : closureFor scope env = pure (cloFrom env.cells scope.names []) := by
  simp only [closureFor]
  rw [closure_loop env _ (fun n k c => rfl) scope.names [] h]
  rfl
theorem mem_lookup {α : Type} : ∀ {l : List (Str × α)} {n : Str} {c : α}, (n, c) ∈ l → ∃ c', l.lookup n = some c'
  | (k, v) :: r, n, c, h => by
    rw [List.lookup_cons]
    cases hb : n == k with
    | true => exact ⟨_, rfl⟩
    | false =>
      rcases List.mem_cons.mp h with e | h
      · cases e; simp at hb
      · exact mem_lookup h
theorem cloFrom_mem {cells : List (Str × Addr)} : ∀ {names : List (Str × NameKind)} {acc : List (Str × Addr)} {n : Str} {c : Addr}, (n, c) ∈ cloFrom cells names acc → (n, c) ∈ acc ∨ ((n, .free) ∈ names ∧ c = (cells.lookup n).getD 0)
  | [], _, _, _, h => .inl h
  | (m, k) :: r, acc, n, c, h => by
    unfold cloFrom at h
    split at h
    · rename_i hk
      have hk : k = .free := by simpa using hk
      rcases cloFrom_mem h with h | ⟨h1, h2⟩
      · rcases List.mem_cons.mp h with e | h
        · cases e; exact .inr ⟨hk ▸ List.mem_cons_self, rfl⟩
        · exact .inl h
      · exact .inr ⟨List.mem_cons_of_mem _ h1, h2⟩
    · rcases cloFrom_mem h with h | ⟨h1, h2⟩
      · exact .inl h
      · exact .inr ⟨List.mem_cons_of_mem _ h1, h2⟩
theorem cloFrom_acc {cells : List (Str × Addr)} : ∀ {names : List (Str × NameKind)} {acc : List (Str × Addr)} {p : Str × Addr}, p ∈ acc → p ∈ cloFrom cells names acc
  | [], _, _, h => h
  | (m, k) :: r, acc, p, h => by
    unfold cloFrom
    split
    · exact cloFrom_acc (List.mem_cons_of_mem _ h)
    · exact cloFrom_acc h
theorem cloFrom_has {cells : List (Str × Addr)} : ∀ {names : List (Str × NameKind)} {acc : List (Str × Addr)} {n : Str}, (n, .free) ∈ names → (n, (cells.lookup n).getD 0) ∈ cloFrom cells names acc
  | (m, k) :: r, acc, n, h => by
    unfold cloFrom
    rcases List.mem_cons.mp h with e | h
    · cases e
      exact cloFrom_acc List.mem_cons_self
    · split
      · exact cloFrom_has h
      · exact cloFrom_has h
theorem cells_mem : ∀ {names : List (Str × NameKind)} {h : Heap} {acc : List (Str × Addr)} {x : Str} {c : Addr}, (x, c) ∈ cellsFrom h.objs.size names acc →
    (x, c) ∈ acc ∨ ((x, .cell) ∈ names ∧ h.objs.size ≤ c ∧ CellAt (pushCells h names) c none)
  | [], _, _, _, _, h => .inl h
  | (n, k) :: r, h, acc, x, c, hm => by
    unfold cellsFrom at hm
    unfold pushCells
    split at hm
    · rename_i hk
      rw [if_pos hk]
      have hk : k = .cell := by simpa using hk
      rw [← Heap.size_push h { cls := .type "cell", data := .cell none }] at hm
      rcases cells_mem hm with hm | ⟨h1, h2, h3⟩
      · rcases List.mem_cons.mp hm with e | hm
        · cases e
          exact .inr ⟨hk ▸ List.mem_cons_self, Nat.le_refl _, _, pushCells_keeps r _ _ _ (Heap.get?_push_size _ rfl), rfl⟩
        · exact .inl hm
      · rw [Heap.size_push] at h2
        exact .inr ⟨List.mem_cons_of_mem _ h1, Nat.le_of_succ_le h2, h3⟩
    · rename_i hk
      rw [if_neg hk]
      rcases cells_mem hm with hm | ⟨h1, h2, h3⟩
      · exact .inl hm
      · exact .inr ⟨List.mem_cons_of_mem _ h1, h2, h3⟩
theorem cells_acc : ∀ {names : List (Str × NameKind)} {n : Nat} {acc : List (Str × Addr)} {p : Str × Addr}, p ∈ acc → p ∈ cellsFrom n names acc
  | [], _, _, _, h => h
  | (m, k) :: r, n, acc, p, h => by
    unfold cellsFrom
    split
    · exact cells_acc (List.mem_cons_of_mem _ h)
    · exact cells_acc h
theorem cells_has : ∀ {names : List (Str × NameKind)} {n : Nat} {acc : List (Str × Addr)} {x : Str}, (x, .cell) ∈ names → ∃ c, (x, c) ∈ cellsFrom n names acc
  | (m, k) :: r, n, acc, x, h => by
    unfold cellsFrom
    rcases List.mem_cons.mp h with e | h
    · cases e
      exact ⟨n, cells_acc List.mem_cons_self⟩
    · split
      · exact cells_has h
      · exact cells_has h
theorem cells_inj : ∀ {names : List (Str × NameKind)} {h : Heap} {acc : List (Str × Addr)} {x y : Str} {c : Addr}, (∀ p ∈ acc, p.2 < h.objs.size) → (∀ x y c, (x, c) ∈ acc → (y, c) ∈ acc → x = y) →
    (x, c) ∈ cellsFrom h.objs.size names acc → (y, c) ∈ cellsFrom h.objs.size names acc → x = y
  | [], _, _, _, _, _, _, hi, h1, h2 => hi _ _ _ h1 h2
  | (n, k) :: r, h, acc, x, y, c, hl, hi, h1, h2 => by
    unfold cellsFrom at h1 h2
    split at h1
    · rename_i hk
      rw [if_pos hk] at h2
      rw [← Heap.size_push h { cls := .type "cell", data := .cell none }] at h1 h2
      refine cells_inj (h := h.push _) (fun p hp => ?_) (fun x y c a b => ?_) h1 h2
      · rw [Heap.size_push]
        rcases List.mem_cons.mp hp with rfl | hp
        · exact Nat.lt_succ_self _
        · exact Nat.lt_succ_of_lt (hl p hp)
      · rcases List.mem_cons.mp a with e | a <;> rcases List.mem_cons.mp b with e' | b
        · cases e; cases e'; rfl
        · cases e; exact absurd (hl _ b) (Nat.lt_irrefl _)
        · cases e'; exact absurd (hl _ a) (Nat.lt_irrefl _)
        · exact hi _ _ _ a b
    · rename_i hk
      rw [if_neg hk] at h2
      exact cells_inj hl hi h1 h2
theorem newEnv_comp {M : Model} {A : Around} {E : Value → Shared → Prop} {s : Shared} {scope : Scope} {globals : Addr} {closure : List (Str × Addr)} {qual : Str} {func : Option Addr} {code : Value} {around : Env} {builtins : Addr} {Q : Env → Shared → Prop}
    (h : Q (newEnv scope s.heap.objs.size globals (cellsFrom (s.heap.objs.size + 1) scope.names closure) qual func code (some around) builtins)
      { s with heap := pushCells (s.heap.push { cls := .type "dict", data := .dict #[] }) scope.names }) :
    wpAny M A (newFunctionEnv scope globals closure [] qual func code (some around) builtins) Q E s := by
  simp only [newFunctionEnv, Option.isSome_some, if_true]
  refine wpAny_bind (wpAny_alloc ?_)
  refine wpAny_bind (wpAny_layCells _ (fun n k c => rfl) scope.names closure _ _ ?_)
  rw [show ({ s with heap := s.heap.push { cls := .type "dict", data := .dict #[] } } : Shared).heap.objs.size = s.heap.objs.size + 1 from Heap.size_push ..]
  rw [List.forIn_nil]
  exact wpAny_bind (wpAny_pure (wpAny_pure h))
/-- every name of the written scope, in the scope that runs -/
theorem lookup_relS {sc : Scope} : ∀ {names : List (Str × NameKind)} {x : Str} {k : NameKind},
    (names.map fun (n, k) => if (k == NameKind.free && sc.kind == .function && sc.names.lookup n == some .cell) then (n, NameKind.cell) else (n, k)).lookup x = some k →
    ∃ k', names.lookup x = some k' ∧ (k = k' ∨ (k' = .free ∧ k = .cell))
  | [], _, _, h => by simp at h
  | (n, k₀) :: r, x, k, h => by
    have ih := @lookup_relS sc r x k
    have h' : List.lookup x ((if (k₀ == NameKind.free && sc.kind == .function && sc.names.lookup n == some .cell) = true then (n, NameKind.cell) else (n, k₀)) :: (r.map _)) = some k := h
    cases hx : x == n with
    | true =>
      simp only [List.lookup_cons, hx]
      by_cases hc : (k₀ == NameKind.free && sc.kind == .function && sc.names.lookup n == some .cell) = true
      · rw [if_pos hc] at h'
        simp only [List.lookup_cons, hx] at h'
        cases h'
        simp only [Bool.and_eq_true, beq_iff_eq] at hc
        exact ⟨k₀, rfl, .inr ⟨hc.1.1, rfl⟩⟩
      · rw [if_neg hc] at h'
        simp only [List.lookup_cons, hx] at h'
        cases h'
        exact ⟨_, rfl, .inl rfl⟩
    | false =>
      simp only [List.lookup_cons, hx]
      by_cases hc : (k₀ == NameKind.free && sc.kind == .function && sc.names.lookup n == some .cell) = true
      · rw [if_pos hc] at h'
        simp only [List.lookup_cons, hx] at h'
        exact ih h'
      · rw [if_neg hc] at h'
        simp only [List.lookup_cons, hx] at h'
        exact ih h'
/-- the names of a comprehension's block: its own (with their places in N), or captured -/
structure BlkOk (N : List Str) (sc scope : Scope) (own : List (Str × Nat)) : Prop where
  kind : scope.kind = .function
  uniq : ∀ y ∈ scope.names, scope.names.lookup y.1 = some y.2
  ix : ∀ p ∈ own, N[p.2]? = some p.1
  free : ∀ y ∈ scope.names, y.2 = .free → sc.names.lookup y.1 = some .cell ∨ sc.names.lookup y.1 = some .free
  own : ∀ y ∈ scope.names, y.2 = .local ∨ y.2 = .cell → y.1 ∈ own.map (·.1) ∨ y.1 ∉ N
/-- the slots of the block's own names forgotten -/
def wipe (σ : St) : List Nat → St
  | [] => σ
  | v :: vs => (wipe σ vs).set v none
theorem wipe_length (σ : St) : ∀ vs : List Nat, (wipe σ vs).length = σ.length
  | [] => rfl
  | v :: vs => by unfold wipe; rw [List.length_set, wipe_length σ vs]
theorem wipe_some {σ : St} {i : Nat} {x : V} : ∀ {vs : List Nat}, (wipe σ vs)[i]? = some (some x) → σ[i]? = some (some x) ∧ i ∉ vs
  | [], h => ⟨h, by simp⟩
  | v :: vs, h => by
    unfold wipe at h
    by_cases hi : v = i
    · subst hi
      by_cases hv : v < (wipe σ vs).length
      · rw [List.getElem?_set_self hv] at h; cases h
      · rw [List.getElem?_eq_none (by simpa using hv)] at h; cases h
    · rw [List.getElem?_set_ne hi] at h
      obtain ⟨h1, h2⟩ := wipe_some h
      exact ⟨h1, by simp only [List.mem_cons, not_or]; exact ⟨fun e => hi e.symm, h2⟩⟩
/-- the context of a block that starts at s, its iterator's objects at fp -/
abbrev Cx.blk (X : Cx) (s : Shared) (H : Hp) (scope : Scope) (cenv : Env) (fp : List Addr) : Cx := { X with s_0 := s, H_0 := H, env := cenv, outer := X.stack, ex := fp, fn := fun x => scope.names.lookup x == some .cell, pn := [], xe := fun _ _ => False }
section
variable {X : Cx} {pins : List (Addr × Obj)} {σ : St} {H : Hp} {s : Shared}
theorem block_start {scope : Scope} {own : List (Str × Nat)} {fp : List Addr} (I : Inv X pins σ H s) (ok : BlkOk X.N X.env.scope scope own) (hN : X.N.Nodup) (hfp : ∀ b ∈ fp, FpOk X pins H b ∧ b < s.heap.objs.size) :
    Inv (X.blk s H scope (compEnvC scope (cellsFrom (s.heap.objs.size + 1) scope.names (cloFrom X.env.cells scope.names [])) s.heap.objs.size X.env) fp) [] (wipe σ (own.map (·.2))) H { s with heap := pushCells (s.heap.push { cls := .type "dict", data := .dict #[] }) scope.names } := by
  have hfree : ∀ y ∈ scope.names, y.2 = .free → ∃ c, X.env.cells.lookup y.1 = some c := fun y hy e => by
    rcases ok.free y hy e with k | k
    · exact I.ok.has _ (.inl k)
    · exact I.ok.has _ (.inr k)
  generalize hcenv : compEnvC scope (cellsFrom (s.heap.objs.size + 1) scope.names (cloFrom X.env.cells scope.names [])) s.heap.objs.size X.env = cenv
  have kp : ∀ b o, s.heap.get? b = some o → (pushCells (s.heap.push { cls := .type "dict", data := .dict #[] }) scope.names).get? b = some o := fun b o e => pushCells_keeps _ _ _ _ (Heap.get?_push_of_some _ e)
  have hL : cenv.locals = s.heap.objs.size := by rw [← hcenv]; rfl
  have hcl : cenv.cells = cellsFrom (s.heap.objs.size + 1) scope.names (cloFrom X.env.cells scope.names []) := by rw [← hcenv]; rfl
  have hsc : cenv.scope = relS scope X.env.scope := by rw [← hcenv]; rfl
  rw [← Heap.size_push s.heap { cls := .type "dict", data := .dict #[] }] at hcl
  have cm : ∀ {y c}, (y, c) ∈ cloFrom X.env.cells scope.names [] → X.env.cells.lookup y = some c ∧ c < s.heap.objs.size := fun {y c} hm => by
    rcases cloFrom_mem hm with hm | ⟨h1, rfl⟩
    · cases hm
    · obtain ⟨c, hc⟩ := hfree _ h1 rfl
      rw [hc]
      obtain ⟨w, z⟩ := I.cell _ _ hc
      exact ⟨rfl, z.lt⟩
  have mem : ∀ {y c}, cenv.cells.lookup y = some c → (X.env.cells.lookup y = some c ∧ c < s.heap.objs.size) ∨ (s.heap.objs.size + 1 ≤ c ∧ CellAt (pushCells (s.heap.push { cls := .type "dict", data := .dict #[] }) scope.names) c none) := fun {y c} e => by
    rw [hcl] at e
    rcases cells_mem (PySem.mem_of_lookup e) with hm | ⟨_, h2, h3⟩
    · exact .inl (cm hm)
    · rw [Heap.size_push] at h2; exact .inr ⟨h2, h3⟩
  have look : ∀ {y}, scope.names.lookup y = some .free → ∃ c, cenv.cells.lookup y = some c ∧ X.env.cells.lookup y = some c := fun {y} hl => by
    have hy : (y, NameKind.free) ∈ scope.names := PySem.mem_of_lookup hl
    obtain ⟨c', e'⟩ := mem_lookup (cells_acc (names := scope.names) (n := (s.heap.push { cls := .type "dict", data := .dict #[] }).objs.size) (cloFrom_has (cells := X.env.cells) (acc := []) hy))
    rw [← hcl] at e'
    refine ⟨c', e', ?_⟩
    rw [hcl] at e'
    rcases cells_mem (PySem.mem_of_lookup e') with hm | ⟨h1, _, _⟩
    · exact (cm hm).1
    · have := ok.uniq _ h1
      rw [hl] at this; cases this
  have okB : (X.blk s H scope cenv fp).Ok := by
    refine ⟨I.ok.mod, by show cenv.scope.kind = _; rw [hsc]; exact ok.kind, by show cenv.globals = _; rw [← hcenv]; exact I.ok.glob, by show cenv.builtins = _; rw [← hcenv]; exact I.ok.blt, by show s.heap.objs.size ≤ cenv.locals; rw [hL]; exact Nat.le_refl _,
      fun y z c e1 e2 => ?_, fun y hy => ?_, fun y c z e => ?_, I.ok.hd, I.ok.frames, .inl rfl, fun b hb => ⟨?_, fun y c e z => ?_⟩, I.bs, Nat.le_trans I.ok.bsz I.sz, fun b o e hb => ?_, fun b hb z => ?_, I.stack, I.stkFree⟩
    · have e1 : cenv.cells.lookup y = some c := e1
      have e2 : cenv.cells.lookup z = some c := e2
      rw [hcl] at e1 e2
      refine cells_inj (fun p hp => ?_) (fun y z c a b => I.ok.inj y z c (cm a).1 (cm b).1) (PySem.mem_of_lookup e1) (PySem.mem_of_lookup e2)
      rw [Heap.size_push]
      exact Nat.lt_succ_of_lt (cm (y := p.1) (c := p.2) hp).2
    · show ∃ c, cenv.cells.lookup y = some c
      have key : ∀ k, cenv.kindOf y = some k → (k = .cell ∨ k = .free) → ∃ c, cenv.cells.lookup y = some c := fun k hk hk' => by
        unfold Env.kindOf at hk
        rw [hsc] at hk
        obtain ⟨k', e, r⟩ := lookup_relS hk
        have : k' = .cell ∨ k' = .free := by
          rcases r with rfl | ⟨rfl, _⟩
          · exact hk'
          · exact .inr rfl
        rcases this with rfl | rfl
        · obtain ⟨c, hm⟩ := cells_has (n := (s.heap.push { cls := .type "dict", data := .dict #[] }).objs.size) (acc := cloFrom X.env.cells scope.names []) (PySem.mem_of_lookup e)
          obtain ⟨c', e'⟩ := mem_lookup hm
          exact ⟨c', by rw [hcl]; exact e'⟩
        · obtain ⟨c, h1, _⟩ := look e
          exact ⟨c, h1⟩
      rcases hy with hy | hy
      · exact key _ hy (.inl rfl)
      · exact key _ hy (.inr rfl)
    · have z : (scope.names.lookup y == some NameKind.cell) = true := z
      have z : scope.names.lookup y = some .cell := by simpa using z
      have e : cenv.cells.lookup y = some c := e
      rw [hcl] at e
      rcases cells_mem (PySem.mem_of_lookup e) with hm | ⟨_, h2, _⟩
      · rcases cloFrom_mem hm with hm | ⟨h1, _⟩
        · cases hm
        · have q := ok.uniq _ h1
          rw [z] at q; cases q
      · rw [Heap.size_push] at h2
        exact Nat.le_of_succ_le h2
    · show b ≠ cenv.locals
      rw [hL]; exact Nat.ne_of_lt (hfp b hb).2
    · have e : cenv.cells.lookup y = some c := e
      rcases mem e with ⟨h1, _⟩ | ⟨h1, _⟩
      · exact (hfp b hb).1.2.2.2.2.1 y c h1 z
      · have h2 : s.heap.objs.size + 1 ≤ b := by rw [← z]; exact h1
        exact absurd (Nat.lt_of_lt_of_le (hfp b hb).2 (Nat.le_of_succ_le h2)) (Nat.lt_irrefl _)
    · rcases (hfp b hb).1.2.2.2.1 with z | z
      · exact I.ok.noex b o e z
      · exact absurd (Nat.lt_of_lt_of_le (Heap.lt_size e) (Nat.le_trans I.ok.bsz z)) (Nat.lt_irrefl _)
    · rcases List.mem_cons.mp (I.stkSub b z) with z | z
      · exact (hfp b hb).1.2.1 z
      · exact (hfp b hb).1.2.2.1 z
  refine ⟨okB, rfl, I.bare, Un.kept kp, ⟨fun _ => none, ?_, fun i y av e1 e2 e3 => ?_⟩, fun y c e => ?_, ?_, fun y c e => ?_, fun p hp => ?_, I.hok.kept kp, by rw [wipe_length]; exact I.len⟩
  · show Heap.Ns _ cenv.locals _
    rw [hL]
    exact Heap.Ns.keeps (Heap.Ns.new ..) fun b o e => pushCells_keeps _ _ _ _ e
  · obtain ⟨e2, hne⟩ := wipe_some e2
    have hfr : scope.names.lookup y = some .free ∧ (cenv.kindOf y = some .cell ∨ cenv.kindOf y = some .free) := by
      have key : ∀ k, cenv.scope.names.lookup y = some k → k = .local ∨ k = .cell ∨ k = .free → scope.names.lookup y = some .free ∧ (cenv.kindOf y = some .cell ∨ cenv.kindOf y = some .free) := fun k hk hk' => by
        have hk0 := hk
        rw [hsc] at hk
        obtain ⟨k', e, r⟩ := lookup_relS hk
        have no : ¬ (k' = .local ∨ k' = .cell) := fun hh => by
          rcases ok.own _ (PySem.mem_of_lookup e) hh with e' | e'
          · obtain ⟨p, hp, hpy⟩ := List.mem_map.mp e'
            have e3 := ok.ix p hp
            have : p.1 = y := hpy
            rw [this] at e3
            exact hne (List.mem_map.mpr ⟨p, hp, nodup_ix hN e3 e1⟩)
          · exact e' (List.mem_of_getElem? e1)
        rcases r with rfl | ⟨rfl, rfl⟩
        · rcases hk' with rfl | rfl | rfl
          · exact absurd (.inl rfl) no
          · exact absurd (.inr rfl) no
          · exact ⟨e, .inr hk0⟩
        · exact ⟨e, .inl hk0⟩
      have e3 : Vis cenv.scope y := e3
      rcases e3 with e3 | e3 | e3
      · exact key _ e3 (.inl rfl)
      · exact key _ e3 (.inr (.inl rfl))
      · exact key _ e3 (.inr (.inr rfl))
    obtain ⟨m, hn, hl⟩ := I.loc
    have hvis : Vis X.env.scope y := (ok.free _ (PySem.mem_of_lookup hfr.1) rfl).elim (fun k => .inr (.inl k)) (fun k => .inr (.inr k))
    obtain ⟨w, r, q⟩ := hl i y av e1 e2 hvis
    refine ⟨w, r, .inr ⟨hfr.2, ?_⟩⟩
    obtain ⟨c, h1, h2⟩ := look hfr.1
    rcases q with ⟨k, _⟩ | ⟨_, c', e', z⟩
    · have k : X.env.scope.names.lookup y = some .local := k
      rcases ok.free _ (PySem.mem_of_lookup hfr.1) rfl with k' | k' <;> rw [show X.env.scope.names.lookup y = _ from k'] at k <;> cases k
    · rw [h2] at e'; cases e'
      exact ⟨c, h1, z.keeps kp⟩
  · have e : cenv.cells.lookup y = some c := e
    rcases mem e with ⟨h1, _⟩ | ⟨_, z⟩
    · obtain ⟨w, z⟩ := I.cell y c h1
      exact ⟨w, z.keeps kp⟩
    · exact ⟨_, z⟩
  · show H cenv.locals = none
    rw [hL]; exact I.hok.fresh (Nat.le_refl _)
  · have e : cenv.cells.lookup y = some c := e
    rcases mem e with ⟨h1, _⟩ | ⟨h1, _⟩
    · exact I.freeC y c h1
    · exact I.hok.fresh (Nat.le_of_succ_le h1)
  · exact absurd (show p ∈ ([] : List (Addr × Obj)) ++ [] from hp) (by simp)
/-- an item appended to a tracked list -/
theorem app_ok {E : Value → Shared → Prop} {D : Addr} {xs : List V} {y : V} {v : Value} {Q : Value → Shared → Prop} (I : Inv X pins σ H s) (hD : H D = some (.lst xs)) (hz : xs.length < sizeLine) (r : RelV y v)
    (h : ∀ s', Inv X pins σ (upd H D (.lst (xs ++ [y]))) s' → Q .none s') : wpAny (model X.prog X.w) X.A (call (.builtin "list.append") [.ref D, v]) Q E s := by
  obtain ⟨hz', its, n, ri, e⟩ := I.hok D _ hD
  have hl := ri.length
  refine append_at (hsz := by rw [List.size_toArray]; omega) e fun h' sb ho' => ?_
  refine h { s with heap := h' } (I.write (t' := s.toks) (by rw [hD]; trivial) (.inl rfl) (fun b u hb q => (sb.2 b hb).trans q) ⟨_, ho'⟩ ⟨by rw [List.length_append]; exact hz, its ++ [v], n + 1, ri.append (.cons r .nil), ?_⟩)
  rw [ho']
  simp
/-- a clause's tests -/
def PTs (X : Cx) (ifs : List Expr) (t : TT) : Prop :=
  ∀ (pins : List (Addr × Obj)) (s : Shared) (σ : St) (H : Hp) (Q : Bool → Hp → Prop), Inv X pins σ H s → t σ H Q →
    wpAny (model X.prog X.w) X.A (forIn ifs true fun c r => if r = true then do let ok ← isTrue c X.env (eval c X.env); pure (ForInStep.yield ok) else pure (ForInStep.yield r)) (TP X pins σ Q) X.xe s
def tYes : TT := fun _ H Q => Q true H
theorem pts_nil : PTs X [] tYes := fun _ _ _ H _ I h => wpAny_tests_nil ⟨H, I, h⟩
theorem pts_one {c : Expr} {t : TT} (h : PT X c t) : PTs X [c] t := fun pins s σ H Q I hw => wpAny_tests_one (h pins s σ H Q I hw)
end
theorem thnF {α : Type} {t : Sem α} {Q Q' : α → Shared → Prop} {M : Model} {A : Around} {E : Value → Shared → Prop} {s : Shared} (h : wpAny M A t Q (fun _ _ => False) s) (hQ : ∀ a s, Q a s → Q' a s) : wpAny M A t Q' E s := wpAny_mono h hQ fun _ _ z => False.elim z
/-- the loop of a list comprehension's block, the target of any form (codeAny_compLoop_tests asks a target that no tuple goes to; statement and proof follow it, PyProof/CompMap.lean:41-61, with the step letOwnedTupleGo kept) -/
theorem compLoop_any {prog : Program} {w : World} {A : Around} {R : Result → Shared → Prop} {s : Shared} {elt target iter : Expr} {ifs : List Expr} {scope : Scope} {pos : Pos} {it acc : Value} {env : Env} (I : Nat → Shared → Prop)
    (turn : ∀ n s, I n s → wpAny (model prog w) A (pyNext it) (fun r s₁ => match r with
      | none => R (.ok .next) s₁
      | some v => wpAny (model prog w) A (letOwnedTupleGo target it v) (fun _ s₁' => wpAny (model prog w) A (assign target env v) (fun _ s₂ =>
          wpAny (model prog w) A (forIn ifs true fun c r => if r = true then do let ok ← isTrue c env (eval c env); pure (ForInStep.yield ok) else pure (ForInStep.yield r)) (fun ok s₃ =>
            if ok = true then wpAny (model prog w) A (eval elt env) (fun x s₄ =>
              wpAny (model prog w) A (call (.builtin "list.append") [acc, x]) (fun _ s₅ => ∃ m, m < n ∧ I m s₅) (notedBy (model prog w) A env fun e s' => R (.error e) s') s₄) (notedBy (model prog w) A env fun e s' => R (.error e) s') s₃
            else ∃ m, m < n ∧ I m s₃) (notedBy (model prog w) A env fun e s' => R (.error e) s') s₂) (notedBy (model prog w) A env fun e s' => R (.error e) s') s₁') (notedBy (model prog w) A env fun e s' => R (.error e) s') s₁) (notedBy (model prog w) A env fun e s' => R (.error e) s') s)
    (n : Nat) (h : I n s) :
    codeAny (model prog w) A (.compLoop (.ListComp elt [⟨target, iter, ifs, 0⟩] scope pos) 0 it acc env) R s := by
  refine codeAny_loop rfl I (fun n s hI => ?_) n h
  show wpAny _ A ((compTurn (.ListComp elt [⟨target, iter, ifs, 0⟩] scope pos) 0 it acc env).onRaise (fun x => do noteFrame x env; theTreesLotGoes x)) _ _ s
  refine wpAny_noted ?_
  rw [compTurn_list]
  refine wpAny_bind (wpAny_standAt (wpAny_bind (wpAny_mono (turn n s hI) (fun r s₁ h₁ => ?_) fun _ _ h' => h')))
  cases r with
  | none => exact wpAny_pure h₁
  | some v =>
    refine wpAny_bind (wpAny_mono h₁ (fun _ s₁' h₁' => ?_) fun _ _ h' => h')
    refine wpAny_bind (wpAny_mono h₁' (fun _ s₂ h₂ => wpAny_bind (wpAny_mono h₂ (fun ok s₃ h₃ => ?_) fun _ _ h' => h')) fun _ _ h' => h')
    cases ok with
    | false => exact wpAny_pure ⟨rfl, h₃⟩
    | true =>
      exact wpAny_bind (wpAny_bind (wpAny_mono h₃ (fun x s₄ h₄ => wpAny_bind (wpAny_mono h₄ (fun _ s₅ h₅ => wpAny_pure (wpAny_pure ⟨rfl, h₅⟩)) fun _ _ h' => h')) fun _ _ h' => h'))
section
variable {X : Cx}
/-- [elt for target in iter if ..]: D the new list; W by the turn and a measure, Nx what a turn is to reach -/
def tLc (wi : TI) (g : TG) (tt : TT) (te : TE) (vs : List Nat) : TE := fun σ H Q => wi σ H fun J H1 => ∀ D, H1 D = none → ∃ W : Nat → Nat → Hp → Prop, (∃ m, W 0 m (upd H1 D (.lst []))) ∧ ∀ i m H, W i m H →
  (J.stop i H ∧ Q (.ref D) H) ∨ (J.go i H ∧ ∃ Nx : Hp → Prop, (∀ H', Nx H' → ∃ m', m' < m ∧ W (i + 1) m' H') ∧ ∀ x H', J.yld i H x H' → g x (wipe σ vs) H' fun σ2 H2 => wipe σ2 vs = wipe σ vs ∧ tt σ2 H2 fun b H3 =>
    if b = true then te σ2 H3 fun y H4 => ∃ acc, H4 D = some (.lst acc) ∧ acc.length < sizeLine ∧ Nx (upd H4 D (.lst (acc ++ [y]))) else Nx H3)
theorem lc_core {pins : List (Addr × Obj)} {s : Shared} {σ : St} {H : Hp} {Q : VK} {elt tg iter : Expr} {ifs : List Expr} {scope : Scope} {own : List (Str × Nat)} {pos pos' : Pos} {wi : TI} {g : TG} {tt : TT} {te : TE} {use : Option (Value → Sem Unit)} {Qf : Value → Shared → Prop}
    (hc : X.calm = true) (hN : X.N.Nodup) (I : Inv X pins σ H s) (hi : PI X tg iter wi) (ok : BlkOk X.N X.env.scope scope own)
    (hg : ∀ (s : Shared) (H : Hp) (C : Addr) (cl : List (Str × Addr)) (fp : List Addr), PG (X.blk s H scope (compEnvC scope cl C X.env) fp) tg g) (ht : ∀ (s : Shared) (H : Hp) (C : Addr) (cl : List (Str × Addr)) (fp : List Addr), PTs (X.blk s H scope (compEnvC scope cl C X.env) fp) ifs tt)
    (he : ∀ (s : Shared) (H : Hp) (C : Addr) (cl : List (Str × Addr)) (fp : List Addr), PE (X.blk s H scope (compEnvC scope cl C X.env) fp) elt te) (hs : ∀ x, foldedSetIterable iter X.env x = pure x)
    (h : tLc wi g tt te (own.map (·.2)) σ H Q)
    (hRR : ∀ D C s' m H', Inv X pins σ H' s' → Q (.ref D) H' → s'.heap.Ns C m → FpOk X pins H' C → compPost (model X.prog X.w) X.A X.xe use Qf (.ref D) C (.ok .next) s') :
    wpAny (model X.prog X.w) X.A (comprehension (.ListComp elt [⟨tg, iter, ifs, 0⟩] scope pos) scope X.env pos' (newList []) false (eval iter X.env) use) Qf X.xe s := by
  have hfree : ∀ y ∈ scope.names, y.2 = .free → ∃ c, X.env.cells.lookup y.1 = some c := fun y hy e => by
    rcases ok.free y hy e with k | k
    · exact I.ok.has _ (.inl k)
    · exact I.ok.has _ (.inr k)
  refine wpAny_comprehension_free (use := use) rfl hs (closure_ok hfree) ok.kind (fun y hy e => by rw [ok.uniq y hy, e])
    (thn (hi pins s σ H _ I h) fun xv s1 hx => thn hx fun itv s2 h2 => ?_)
  obtain ⟨it, fp, tn, J, H2, e, I2, T, st2, f2, q⟩ := h2
  subst e
  refine wpAny_newObj_type (newEnv_comp ?_) (by show 0 ≤ sizeLine; decide)
  generalize hD : s2.heap.objs.size = D
  have hDn : H2 D = none := I2.hok.fresh (Nat.le_of_eq hD)
  obtain ⟨W, ⟨m0, w0⟩, turn⟩ := q D hDn
  -- the new list
  generalize hs3 : ({ s2 with heap := s2.heap.push { cls := .type "list", data := .seq ([] : List Value).toArray } } : Shared) = s3
  have I3 : Inv X pins σ (upd H2 D (.lst [])) s3 := by
    rw [← hs3]
    refine I2.laid (t' := s2.toks) (fun b o e => Heap.get?_push_of_some _ e) (Nat.le_of_eq hD) ⟨Nat.zero_le _, [], 0, .nil, ?_⟩
    rw [← hD]
    exact Heap.get?_push_size _ rfl
  have h3 : s3.heap = s2.heap.push { cls := .type "list", data := .seq ([] : List Value).toArray } := by rw [← hs3]
  have sz : ∀ b ∈ fp, b < s2.heap.objs.size := fun b hb => by
    obtain ⟨o, e, _⟩ := T.obj _ _ st2 b hb
    exact Heap.lt_size e
  have f3 : ∀ b ∈ fp, FpOk X pins (upd H2 D (.lst [])) b ∧ b < s3.heap.objs.size := fun b hb => by
    have hlt := sz b hb
    refine ⟨⟨?_, (f2 b hb).2⟩, by rw [h3, Heap.size_push]; exact Nat.lt_succ_of_lt hlt⟩
    rw [upd_ne (by rw [← hD]; exact Nat.ne_of_lt hlt)]
    exact (f2 b hb).1
  have st3 : tn 0 s3.heap := T.keep _ _ _ st2 fun b _ o e => by rw [h3]; exact Heap.get?_push_of_some _ e
  have I4 := block_start I3 ok hN f3
  have pg := hg s3 (upd H2 D (.lst [])) s3.heap.objs.size (cellsFrom (s3.heap.objs.size + 1) scope.names (cloFrom X.env.cells scope.names [])) fp
  have pt := ht s3 (upd H2 D (.lst [])) s3.heap.objs.size (cellsFrom (s3.heap.objs.size + 1) scope.names (cloFrom X.env.cells scope.names [])) fp
  have pe := he s3 (upd H2 D (.lst [])) s3.heap.objs.size (cellsFrom (s3.heap.objs.size + 1) scope.names (cloFrom X.env.cells scope.names [])) fp
  show codeAny _ _ (.compStart (.ListComp elt [⟨tg, iter, ifs, 0⟩] scope pos) 0 (.ref it) (.ref D) (compEnvC scope (cellsFrom (s3.heap.objs.size + 1) scope.names (cloFrom X.env.cells scope.names [])) s3.heap.objs.size X.env)) (compPost (model X.prog X.w) X.A X.xe use Qf (.ref D) s3.heap.objs.size) { s3 with heap := pushCells (s3.heap.push { cls := .type "dict", data := .dict #[] }) scope.names }
  have nfp : ∀ b ∈ fp, (upd H2 D (.lst [])) b = none := fun b hb => (f3 b hb).1.1
  generalize hce : compEnvC scope (cellsFrom (s3.heap.objs.size + 1) scope.names (cloFrom X.env.cells scope.names [])) s3.heap.objs.size X.env = ce at I4 pg pt pe ⊢
  have cL : ce.locals = s3.heap.objs.size := by subst hce; rfl
  generalize hH3 : upd H2 D (.lst []) = H3 at I3 I4 pg pt pe w0 nfp f3
  generalize hs4 : ({ s3 with heap := pushCells (s3.heap.push { cls := .type "dict", data := .dict #[] }) scope.names } : Shared) = s4 at I4 ⊢
  have st4 : tn 0 s4.heap := T.keep _ _ _ st3 fun b _ o e => by rw [← hs4]; exact pushCells_keeps _ _ _ _ (Heap.get?_push_of_some _ e)
  have stat : ∀ {σ' : St} {H' : Hp} {s' : Shared}, Inv (X.blk s3 H3 scope ce fp) [] σ' H' s' → (∀ b ∈ fp, H' b = none) → ∀ b ∈ fp, FpOk (X.blk s3 H3 scope ce fp) [] H' b := fun {σ' H' s'} I' hn b hb =>
    ⟨hn b hb, (I'.ok.exf b hb).1, I'.ok.exfs b hb, .inl hb, fun x c e => (I'.ok.exf b hb).2 x c e, fun p hp => absurd (show p ∈ ([] : List (Addr × Obj)) ++ [] from hp) (by simp)⟩
  have loop : codeAny (model X.prog X.w) X.A (.compLoop (.ListComp elt [⟨tg, iter, ifs, 0⟩] scope pos) 0 (.ref it) (.ref D) ce) (compPost (model X.prog X.w) X.A X.xe use Qf (.ref D) s3.heap.objs.size) s4 := by
    refine compLoop_any (fun n s' => ∃ i H', Inv (X.blk s3 H3 scope ce fp) [] (wipe σ (own.map (·.2))) H' s' ∧ tn i s'.heap ∧ (∀ b ∈ fp, H' b = none) ∧ W i n H') ?_ m0 ⟨0, H3, I4, st4, nfp, w0⟩
    rintro n s5 ⟨i, H5, I5, st5, n5, w5⟩
    rcases turn i n H5 w5 with ⟨stop, qq⟩ | ⟨go, Nx, hNx, step⟩
    · have td := T.done (X.blk s3 H3 scope ce fp) rfl rfl rfl hc i [] s5 _ H5 (fun _ _ => False) I5 (stat I5 n5) st5 stop
      refine thnF td fun r s6 ⟨hr, I6⟩ => ?_
      subst hr
      -- back in the def's context
      have I7 : Inv X pins σ H5 s6 := I3.call' (ch := fp) I6.os I6.base I6.hok I6.bare fun b hb => ⟨(f3 b hb).1.2.2.2.1, (f3 b hb).1.2.1, (f3 b hb).1.2.2.2.2.1, (f3 b hb).1.2.2.2.2.2⟩
      have nC : H5 s3.heap.objs.size = none := by
        have z : H5 ce.locals = none := I6.free
        rw [cL] at z
        exact z
      obtain ⟨m, hn, _⟩ := I6.loc
      have hn : s6.heap.Ns ce.locals m := hn
      rw [cL] at hn
      exact hRR D s3.heap.objs.size s6 m H5 I7 qq hn (I3.fpOk (Nat.le_refl _) nC)
    · have ti := T.item (X.blk s3 H3 scope ce fp) rfl rfl rfl hc i [] s5 _ H5 (fun _ _ => False) I5 (stat I5 n5) st5 go
      refine thnF ti fun r s6 ⟨u, hr, h6⟩ => ?_
      subst hr
      refine thnF h6 fun _ s7 ⟨x, H7, I7, r7, y7, st7, n7⟩ => ?_
      have I7' := I7.pinned (stat I7 n7) (T.obj _ _ st7)
      refine thnF (pg _ s7 _ H7 x u _ I7' r7 (step x H7 y7)) fun _ s8 ⟨σ8, H8, I8, hw8, q8⟩ => ?_
      refine thnF (pt _ s8 σ8 H8 _ I8 q8) fun b s9 ⟨H9, I9, q9⟩ => ?_
      -- the turn's end
      have fin : ∀ {s' : Shared} {H' : Hp}, Inv (X.blk s3 H3 scope ce fp) ([] ++ pinsAt fp s7.heap) σ8 H' s' → Nx H' → ∃ m, m < n ∧ ∃ i H', Inv (X.blk s3 H3 scope ce fp) [] (wipe σ (own.map (·.2))) H' s' ∧ tn i s'.heap ∧ (∀ b ∈ fp, H' b = none) ∧ W i m H' := fun {s' H'} I' nx => by
        obtain ⟨m', hm, w'⟩ := hNx H' nx
        have pin' : ∀ b ∈ fp, ∀ o, s7.heap.get? b = some o → s'.heap.get? b = some o ∧ H' b = none := fun b hb o e =>
          let z := I'.pin (b, o) (List.mem_append_right _ (List.mem_append_right _ (mem_pinsAt hb e)))
          ⟨z.1, z.2.1⟩
        have hl : (wipe σ (own.map (·.2))).length = σ8.length := by rw [← hw8, wipe_length]
        refine ⟨m', hm, i + 1, H', (I'.unpinned (pins := [])).weak hl (fun j v e => ?_), T.keep _ _ _ st7 fun b hb o e => (pin' b hb o e).1, fun b hb => ?_, w'⟩
        · rw [← hw8] at e
          exact (wipe_some e).1
        · obtain ⟨o, e, _⟩ := T.obj _ _ st7 b hb
          exact (pin' b hb o e).2
      cases b with
      | false =>
        simp only [Bool.false_eq_true, if_false] at q9 ⊢
        exact fin I9 q9
      | true =>
        simp only [if_true] at q9 ⊢
        refine thnF (pe _ s9 σ8 H9 _ I9 q9) fun z s10 ⟨yv, H10, I10, r10, acc, hD10, hz10, nx⟩ => ?_
        exact app_ok (X := X.blk s3 H3 scope ce fp) I10 hD10 hz10 r10 fun s11 I11 => fin I11 nx
  exact codeAny_compStart_list loop (T.self X.A 0 _ _ _ st4 loop)
/-- as a value -/
theorem pe_lc {elt tg iter : Expr} {ifs : List Expr} {scope : Scope} {own : List (Str × Nat)} {pos : Pos} {wi : TI} {g : TG} {tt : TT} {te : TE} (hc : X.calm = true) (hN : X.N.Nodup) (hi : PI X tg iter wi) (ok : BlkOk X.N X.env.scope scope own)
    (hg : ∀ (s : Shared) (H : Hp) (C : Addr) (cl : List (Str × Addr)) (fp : List Addr), PG (X.blk s H scope (compEnvC scope cl C X.env) fp) tg g) (ht : ∀ (s : Shared) (H : Hp) (C : Addr) (cl : List (Str × Addr)) (fp : List Addr), PTs (X.blk s H scope (compEnvC scope cl C X.env) fp) ifs tt)
    (he : ∀ (s : Shared) (H : Hp) (C : Addr) (cl : List (Str × Addr)) (fp : List Addr), PE (X.blk s H scope (compEnvC scope cl C X.env) fp) elt te) (hs : ∀ x, foldedSetIterable iter X.env x = pure x := by intro _; rfl) :
    PE X (.ListComp elt [⟨tg, iter, ifs, 0⟩] scope pos) (tLc wi g tt te (own.map (·.2))) := by
  intro pins s σ H Q I h
  rw [eval_ListComp]
  refine lc_core hc hN I hi ok hg ht he hs h fun D C s' m H' I' q hn f => ⟨m, hn, fun h'' sb => ?_⟩
  obtain ⟨f0, f1, f2, f3, f4, f5⟩ := f
  exact ⟨.ref D, H', I'.turned (t' := s'.toks) (fun b o hb e => (sb.2 b hb).trans e) f0 f1 f3 f4 f5, rfl, q⟩
/-- name = [..] on one line, the name a local -/
theorem ps_setLc {i : Nat} {y : Str} {py : Pos} {elt tg iter : Expr} {ifs : List Expr} {scope : Scope} {own : List (Str × Nat)} {pos spos : Pos} {wi : TI} {g : TG} {tt : TT} {te : TE} (hc : X.calm = true) (hN : X.N.Nodup) (hy : X.N[i]? = some y) (hyl : X.env.scope.names.lookup y = some .local)
    (hsw : swapsWith (.ListComp elt [⟨tg, iter, ifs, 0⟩] scope pos) (some (.Name y py)) spos.line X.env = pure true) (hi : PI X tg iter wi) (ok : BlkOk X.N X.env.scope scope own)
    (hg : ∀ (s : Shared) (H : Hp) (C : Addr) (cl : List (Str × Addr)) (fp : List Addr), PG (X.blk s H scope (compEnvC scope cl C X.env) fp) tg g) (ht : ∀ (s : Shared) (H : Hp) (C : Addr) (cl : List (Str × Addr)) (fp : List Addr), PTs (X.blk s H scope (compEnvC scope cl C X.env) fp) ifs tt)
    (he : ∀ (s : Shared) (H : Hp) (C : Addr) (cl : List (Str × Addr)) (fp : List Addr), PE (X.blk s H scope (compEnvC scope cl C X.env) fp) elt te) (hs : ∀ x, foldedSetIterable iter X.env x = pure x := by intro _; rfl) :
    PS X (.Assign [.Name y py] (.ListComp elt [⟨tg, iter, ifs, 0⟩] scope pos) spos) (tAsg (tLc wi g tt te (own.map (·.2))) (gName i)) := by
  intro pins s σ H D I h
  rw [exec_Assign_Name_used _ _ _ _ hsw]
  refine wpAny_bind (wpAny_standAt (wpAny_bind ?_))
  show wpAny _ X.A (do let _ ← comprehension (.ListComp elt [⟨tg, iter, ifs, 0⟩] scope pos) scope X.env (firstIterPos [⟨tg, iter, ifs, 0⟩] pos) (newList []) false (eval iter X.env) (some (assign (.Name y py) X.env))) _ _ s
  have h : tLc wi g tt te (own.map (·.2)) σ H (fun x H1 => gName i x σ H1 D.nx) := h
  refine wpAny_bind (thn (lc_core (Qf := fun _ s' => SP X pins D .next s') hc hN I hi ok hg ht he hs h fun L C s' m H' I' q hn f => ?_) fun _ s' hq => wpAny_pure (wpAny_pure hq))
  show wpAny _ _ (assign (.Name y py) X.env (.ref L)) _ _ _
  refine wpAny_assign_Name (store_ok2 (v := V.ref L) I' hN hy (.inl hyl) rfl (fun s2 I2 ⟨a, sb, ha⟩ => ?_) (.inr hyl))
  obtain ⟨f0, f1, f2, f3, f4, f5⟩ := f
  have haC : C ≠ a := by
    rcases ha with z | z
    · rw [z]; exact f1
    · exact fun e => f4 y a z e.symm
  refine ⟨m, hn.sameBut sb haC, fun h3 sb3 => ?_⟩
  exact ⟨_, H', I2.turned (t' := s2.toks) (fun b o hb e => (sb3.2 b hb).trans e) f0 f1 f3 f4 f5, q⟩
theorem sw_true {elt : Expr} {gs : List Comprehension} {scope : Scope} {pos py : Pos} {y : Str} {l : Nat} {env : Env} (hk : env.scope.kind = .function) (hy : env.scope.names.lookup y = some .local) (hl : (py.line == pos.line) = true)
    (ha : (scope.names.any fun (n, k) => n == y && (k == .local || k == .cell)) = false) : swapsWith (.ListComp elt gs scope pos) (some (.Name y py)) l env = pure true := by
  have ky : env.kindOf y = some .local := hy
  have hb : env.blockKind = .function := by unfold Env.blockKind; rw [hk]; rfl
  unfold swapsWith
  simp only [hb, ky, ha, Expr.pos, hl]
  rfl
end
/-! ### the forms one uses -/
/-- over a range: Pv by the turn and the heap (the new list at D within) -/
theorem lc_range {lo : Int} {n : Nat} {g : TG} {tt : TT} {te : TE} {vs : List Nat} {σ : St} {H1 : Hp} {D : Addr} {Qd : Hp → Prop} (Pv : Nat → Hp → Prop) (h0 : Pv 0 (upd H1 D (.lst [])))
    (hs : ∀ i H, i < n → Pv i H → g (.int (lo + i)) (wipe σ vs) H fun σ2 H2 => wipe σ2 vs = wipe σ vs ∧ tt σ2 H2 fun b H3 =>
      if b = true then te σ2 H3 fun y H4 => ∃ acc, H4 D = some (.lst acc) ∧ acc.length < sizeLine ∧ Pv (i + 1) (upd H4 D (.lst (acc ++ [y]))) else Pv (i + 1) H3) (hd : ∀ H, Pv n H → Qd H) :
    ∃ W : Nat → Nat → Hp → Prop, (∃ m, W 0 m (upd H1 D (.lst []))) ∧ ∀ i m H, W i m H →
      ((Itr lo n).stop i H ∧ Qd H) ∨ ((Itr lo n).go i H ∧ ∃ Nx : Hp → Prop, (∀ H', Nx H' → ∃ m', m' < m ∧ W (i + 1) m' H') ∧ ∀ x H', (Itr lo n).yld i H x H' → g x (wipe σ vs) H' fun σ2 H2 => wipe σ2 vs = wipe σ vs ∧ tt σ2 H2 fun b H3 =>
        if b = true then te σ2 H3 fun y H4 => ∃ acc, H4 D = some (.lst acc) ∧ acc.length < sizeLine ∧ Nx (upd H4 D (.lst (acc ++ [y]))) else Nx H3) := by
  refine ⟨fun i m H => m = n - i ∧ i ≤ n ∧ Pv i H, ⟨n, by simp, Nat.zero_le _, h0⟩, ?_⟩
  rintro i m H ⟨rfl, hi, p⟩
  by_cases hlt : i < n
  · refine .inr ⟨hlt, Pv (i + 1), fun H' p' => ⟨n - (i + 1), by omega, rfl, hlt, p'⟩, fun x H' y => ?_⟩
    obtain ⟨e, y⟩ := y
    subst e y
    exact hs i _ hlt p
  · have e : i = n := by omega
    subst e
    exact .inl ⟨Nat.le_refl _, hd H p⟩
/-- over a list that the block leaves as it is -/
theorem lc_list {K : PySem.W.Frag} {a : Addr} {xs : List V} {g : TG} {tt : TT} {te : TE} {vs : List Nat} {σ : St} {H1 : Hp} {D : Addr} {Qd : Hp → Prop} (Pv : Nat → Hp → Prop) (h0 : Pv 0 (upd H1 D (.lst []))) (hl : ∀ i H, i ≤ xs.length → Pv i H → SqL K H a xs)
    (hs : ∀ i x H, xs[i]? = some x → Pv i H → g x (wipe σ vs) H fun σ2 H2 => wipe σ2 vs = wipe σ vs ∧ tt σ2 H2 fun b H3 =>
      if b = true then te σ2 H3 fun y H4 => ∃ acc, H4 D = some (.lst acc) ∧ acc.length < sizeLine ∧ Pv (i + 1) (upd H4 D (.lst (acc ++ [y]))) else Pv (i + 1) H3) (hd : ∀ H, Pv xs.length H → Qd H) :
    ∃ W : Nat → Nat → Hp → Prop, (∃ m, W 0 m (upd H1 D (.lst []))) ∧ ∀ i m H, W i m H →
      ((Itl K a).stop i H ∧ Qd H) ∨ ((Itl K a).go i H ∧ ∃ Nx : Hp → Prop, (∀ H', Nx H' → ∃ m', m' < m ∧ W (i + 1) m' H') ∧ ∀ x H', (Itl K a).yld i H x H' → g x (wipe σ vs) H' fun σ2 H2 => wipe σ2 vs = wipe σ vs ∧ tt σ2 H2 fun b H3 =>
        if b = true then te σ2 H3 fun y H4 => ∃ acc, H4 D = some (.lst acc) ∧ acc.length < sizeLine ∧ Nx (upd H4 D (.lst (acc ++ [y]))) else Nx H3) := by
  refine ⟨fun i m H => m = xs.length - i ∧ i ≤ xs.length ∧ Pv i H, ⟨xs.length, by simp, Nat.zero_le _, h0⟩, ?_⟩
  rintro i m H ⟨rfl, hi, p⟩
  have q := hl i H hi p
  by_cases hlt : i < xs.length
  · refine .inr ⟨⟨xs, xs[i], q, by simp [hlt]⟩, Pv (i + 1), fun H' p' => ⟨xs.length - (i + 1), by omega, rfl, hlt, p'⟩, fun x H' y => ?_⟩
    obtain ⟨e, y⟩ := y
    subst e
    exact hs i x _ (y xs q) p
  · have e : i = xs.length := by omega
    subst e
    exact .inl ⟨⟨xs, q, Nat.le_refl _⟩, hd H p⟩
def blkC (N : List Str) (sc scope : Scope) (own : List (Str × Nat)) : Bool :=
  (match scope.kind with | .function => true | _ => false) && (scope.names.all fun y => decide (scope.names.lookup y.1 = some y.2)) && (own.all fun p => decide (N[p.2]? = some p.1)) &&
    (scope.names.all fun y => match y.2 with
      | .free => (match sc.names.lookup y.1 with | some .cell => true | some .free => true | _ => false)
      | .local => decide (y.1 ∈ own.map (·.1)) || decide (y.1 ∉ N)
      | .cell => decide (y.1 ∈ own.map (·.1)) || decide (y.1 ∉ N)
      | _ => true)
theorem blkOk_by {N : List Str} {sc scope : Scope} {own : List (Str × Nat)} (h : blkC N sc scope own = true) : BlkOk N sc scope own := by
  unfold blkC at h
  simp only [Bool.and_eq_true, List.all_eq_true, decide_eq_true_eq] at h
  obtain ⟨⟨⟨h1, h2⟩, h3⟩, h4⟩ := h
  refine ⟨?_, h2, h3, fun y hy e => ?_, fun y hy e => ?_⟩
  · split at h1
    · assumption
    · cases h1
  · have q := h4 y hy
    simp only [e] at q
    split at q <;> first | exact .inl (by assumption) | exact .inr (by assumption) | cases q
  · have q := h4 y hy
    rcases e with e | e <;> (simp only [e, Bool.or_eq_true, decide_eq_true_eq] at q; exact q)
end L2
namespace L2
open PySem PySem.Spec PyProof.Rows
section
variable {prog : Program} {w : World} {A : Around} {R : Result → Shared → Prop} {s : Shared} {elt t0 i0 t1 i1 : Expr} {ifs0 ifs1 : List Expr} {scope : Scope} {pos : Pos} {it acc : Value} {env : Env}
end
section
variable {X : Cx}
end
end L2
namespace L2
open PySem PySem.Spec PyProof.Rows
/-! ### lists of pairs as tables -/
section
variable {κ : Type} [DecidableEq κ]
def valV (kvs : List (κ × V)) (k : κ) : Option V := (kvs.find? fun kv => decide (kv.1 = k)).map (·.2)
/-- in its place, or at the end -/
def putK (kvs : List (κ × V)) (k : κ) (v : V) : List (κ × V) :=
  if (kvs.any fun kv => decide (kv.1 = k)) = true then kvs.map (fun kv => if kv.1 = k then (kv.1, v) else kv) else kvs ++ [(k, v)]
def dropK (kvs : List (κ × V)) (k : κ) : List (κ × V) := kvs.filter fun kv => decide (kv.1 ≠ k)
theorem RelO.getD {o : Option V} {u : Option Value} {d : V} {d' : Value} (r : RelO o u) (rd : RelV d d') : RelV (o.getD d) (u.getD d') := by
  cases o with
  | none => cases u with
    | none => exact rd
    | some _ => exact (show False from r).elim
  | some _ => cases u with
    | none => exact (show False from r).elim
    | some _ => exact r
theorem KV.any {kvs : List (κ × V)} {vs : List (κ × Value)} (r : KV kvs vs) (k : κ) : (kvs.any fun kv => decide (kv.1 = k)) = vs.any fun kv => decide (kv.1 = k) := by
  unfold KV at r
  induction r with
  | nil => rfl
  | cons h t ih => rw [List.any_cons, List.any_cons, ih, h.1]
theorem KV.drop {kvs : List (κ × V)} {vs : List (κ × Value)} (r : KV kvs vs) (k : κ) : KV (dropK kvs k) (without vs k) := by
  unfold KV at r ⊢
  unfold dropK without
  induction r with
  | nil => exact .nil
  | @cons p q ps qs h t ih =>
    obtain ⟨h1, h2⟩ := h
    rw [List.filter_cons, List.filter_cons]
    by_cases e : p.1 = k
    · have a : ¬ decide (p.1 ≠ k) = true := by simp [e]
      have b : ¬ decide (q.1 ≠ k) = true := by simp [h1.symm.trans e]
      rw [if_neg a, if_neg b]; exact ih
    · have e' : ¬ q.1 = k := fun z => e (h1.trans z)
      have a : decide (p.1 ≠ k) = true := by simp [e]
      have b : decide (q.1 ≠ k) = true := by simp [e']
      rw [if_pos a, if_pos b]; exact .cons ⟨h1, h2⟩ ih
theorem KV.keys {kvs : List (κ × V)} {vs : List (κ × Value)} (r : KV kvs vs) : kvs.map (·.1) = vs.map (·.1) := by
  unfold KV at r
  induction r with
  | nil => rfl
  | cons h t ih => rw [List.map_cons, List.map_cons, ih, h.1]
theorem KV.length {kvs : List (κ × V)} {vs : List (κ × Value)} (r : KV kvs vs) : kvs.length = vs.length := Paired.length r
end
/-! ### a tracked dict, its keys ints and texts or tuples of these -/
/-- raw entries of a dict with tuple keys -/
abbrev KT (H : Hp) : List (List Key × V) → List (List Key × Addr × Value) → Prop := Paired fun p q => p.1 = q.1 ∧ H q.2.1 = some (.tup (p.1.map kV)) ∧ RelV p.2 q.2.2
theorem KT.keeps {H H' : Hp} {kvs : List (List Key × V)} {xs : List (List Key × Addr × Value)} (r : KT H kvs xs) (ht : ∀ b ys, H b = some (.tup ys) → H' b = some (.tup ys)) : KT H' kvs xs :=
  Paired.mapP r fun _ _ z => ⟨z.1, ht _ _ z.2.1, z.2.2⟩
section
variable {P : Program} {w : World} {H : Hp} {h : Heap} {a : Addr}
end
/-- what the dict at a holds at the key y -/
def DGet (H : Hp) (a : Addr) (y : V) (r : Option V) : Prop :=
  (∃ kvs k, Rd H a (.dK kvs) ∧ y = kV k ∧ r = valV kvs k) ∨ ∃ kvs k b, Rd H a (.dT kvs) ∧ y = .ref b ∧ H b = some (.tup (k.map kV)) ∧ r = valV kvs k
/-- the heap behind a[y] = v -/
def DPut (H : Hp) (a : Addr) (y v : V) (H' : Hp) : Prop :=
  (∃ kvs k, H a = some (.dK kvs) ∧ y = kV k ∧ kvs.length < sizeLine ∧ H' = upd H a (.dK (putK kvs k v))) ∨
  ∃ kvs k b, H a = some (.dT kvs) ∧ y = .ref b ∧ H b = some (.tup (k.map kV)) ∧ kvs.length < sizeLine ∧ H' = upd H a (.dT (putK kvs k v))
theorem DGet.k {H : Hp} {a : Addr} {kvs : List (Key × V)} {k : Key} (e : H a = some (.dK kvs)) : DGet H a (kV k) (valV kvs k) := .inl ⟨kvs, k, .inl e, rfl, rfl⟩
theorem DGet.t {H : Hp} {a b : Addr} {kvs : List (List Key × V)} {k : List Key} (e : H a = some (.dT kvs)) (eb : H b = some (.tup (k.map kV))) : DGet H a (.ref b) (valV kvs k) := .inr ⟨kvs, k, b, .inl e, rfl, eb, rfl⟩
theorem DPut.k {H : Hp} {a : Addr} {kvs : List (Key × V)} {k : Key} {v : V} (e : H a = some (.dK kvs)) (hl : kvs.length < sizeLine) : DPut H a (kV k) v (upd H a (.dK (putK kvs k v))) := .inl ⟨kvs, k, e, rfl, hl, rfl⟩
theorem DPut.t {H : Hp} {a b : Addr} {kvs : List (List Key × V)} {k : List Key} {v : V} (e : H a = some (.dT kvs)) (eb : H b = some (.tup (k.map kV))) (hl : kvs.length < sizeLine) :
    DPut H a (.ref b) v (upd H a (.dT (putK kvs k v))) := .inr ⟨kvs, k, b, e, rfl, eb, hl, rfl⟩
section
variable {X : Cx} {pins : List (Addr × Obj)} {σ : St} {H : Hp} {s : Shared} {a : Addr} {y v : V} {u r : Value} {o : Option V} {A : Around} {E : Value → Shared → Prop}
theorem Inv.big (I : Inv X pins σ H s) : sysModules < s.heap.objs.size := by
  have h : mainGlobals < s.heap.objs.size := (I.mod.glob.keeps I.bk).lt
  exact Nat.lt_trans (by decide) h
end
section
variable {X : Cx} {pins : List (Addr × Obj)} {σ : St} {H : Hp} {s : Shared} {a : Addr} {kvs : List (Key × V)} {k : Key} {u : Value} {A : Around} {E : Value → Shared → Prop}
end
/-! ### readings and rules -/
section
variable {X : Cx} {o i e value : Expr} {pos pos' tpos : Pos} {td ty tv : TE}
end
/-! ### displays -/
section
variable {X : Cx} {pos : Pos}
end
/-! ### methods -/
section
variable {X : Cx} {pins : List (Addr × Obj)} {σ : St} {H : Hp} {s : Shared} {a : Addr} {y d : V} {u r : Value} {o : Option V} {A : Around} {E : Value → Shared → Prop}
end
section
variable {X : Cx} {o e f : Expr} {apos cpos : Pos} {td ty tx : TE}
end
/-! ### dict(d): a copy -/
section
variable {X : Cx} {pins : List (Addr × Obj)} {σ : St} {H : Hp} {s : Shared} {a : Addr} {kvs : List (Key × V)} {A : Around} {E : Value → Shared → Prop}
end
section
variable {X : Cx} {pins : List (Addr × Obj)} {σ : St} {H : Hp} {s : Shared} {a : Addr} {y : V} {u : Value} {A : Around} {E : Value → Shared → Prop}
end
end L2
namespace L2
open PySem PySem.Spec PyProof.Rows
section
variable {prog : Program} {w : World} {A : Around} {E : Value → Shared → Prop}
end
section
variable {X : Cx}
end
end L2
namespace L2
open PySem PySem.Spec PyProof.Rows
section
variable {X : Cx} {pins : List (Addr × Obj)} {σ : St} {H : Hp} {s : Shared} {h' : Heap}
/-- .. and one new object is laid -/
theorem Inv.turnedNew {t' : Nat} {ch : List Addr} {T : Addr} {ob : HO} (I : Inv X pins σ H s) (k : ∀ b o, b ∉ ch → s.heap.get? b = some o → h'.get? b = some o) (hf : ∀ b ∈ ch, FpOk X pins H b) (hT : s.heap.objs.size ≤ T)
    (new : ObjOk X.prog X.w (upd H T ob) h' T ob) : Inv X pins σ (upd H T ob) { s with heap := h', toks := t' } := by
  have hn : H T = none := I.hok.fresh hT
  have nit : ∀ b u, H b = some u → b ∉ ch := fun b u e z => by
    have q := (hf b z).1
    rw [q] at e; cases e
  refine I.step (g' := s.gens) (d' := s.drawn) (ch := ch) (fun b hb => ⟨(hf b hb).2.2.2.1, (hf b hb).2.1, (hf b hb).2.2.2.2.1, (hf b hb).2.2.2.2.2⟩) (fun b o _ _ hc e _ => k b o hc e) (fun b o _ _ hc e _ => ⟨o.slots, k b o hc e⟩)
    (fun b o _ e n => ?_) (fun b o hc e => ⟨o, k b o hc e⟩) (fun b xs e => ?_) (fun b o u e => ?_) (fun b ps e => ⟨#[], ?_⟩) (fun m hm => ?_) (fun b u e => ?_) I.bare
  · rw [upd_ne (Nat.ne_of_lt (Nat.lt_of_lt_of_le (Heap.lt_size e) hT))]; exact n
  · rw [upd_ne (ne_of_none e hn)]; exact e
  · rw [upd_ne (ne_of_none e hn)]; exact e
  · rw [upd_ne (ne_of_none e hn), e]; simp
  · obtain ⟨o, es, ep, ho, r⟩ := hm
    exact ⟨o, es, ep, k _ o (fun z => (hf _ z).2.1 rfl) ho, r⟩
  · by_cases hb : b = T
    · subst hb
      rw [upd_same] at e
      cases e
      exact new
    · rw [upd_ne hb] at e
      refine (I.hok b u e).stay (fun c v hc q => k c v ?_ q) (fun c q => by rw [upd_ne (ne_of_none q hn)]; exact q) fun c xs q => by rw [upd_ne (ne_of_none q hn)]; exact q
      rcases hc with z | z
      · rw [z]; exact nit b u e
      · exact nit c _ z
/-! ### locking a thing while a statement runs -/
end
section
variable {X : Cx}
/-! ### one iterator just laid -/
end
/-! ### range with a step -/
section
variable {X : Cx} {tg : Expr}
end
/-! ### reversed(list) -/
section
variable {X : Cx} {tg : Expr}
end
/-! ### a str -/
/-! ### a dict's keys: any dict's entries -/
section
variable {prog : Program} {w : World} {A : Around} {E : Value → Shared → Prop} {s : Shared}
end
/-! ### a locked dict -/
section
variable {X : Cx} {pins : List (Addr × Obj)} {σ : St} {H : Hp} {s : Shared} {d : Addr} {o : Obj}
end
section
variable {P : Program} {w : World} {K : PySem.W.Frag} {tg : Expr} {d : Addr} {o : Obj} {es : Array DictEntry} {ep : Nat}
end
/-! ### for k in d, d.keys(), d.values(), d.items() -/
section
variable {X : Cx} {tg e : Expr} {td : TE} {apos cpos : Pos}
end
/-! ### enumerate(list) -/
/-- the list at a as it stands at each turn, each item in a new pair -/
def Ite (K : PySem.W.Frag) (a : Addr) : It :=
  ⟨fun i H => ∃ (xs : List V) (x : V), SqL K H a xs ∧ xs[i]? = some x, fun i H v H' => ∃ T x, v = .ref T ∧ H T = none ∧ H' = upd H T (.tup [.int (i : Nat), x]) ∧ ∀ xs, SqL K H a xs → xs[i]? = some x, fun i H => ∃ xs : List V, SqL K H a xs ∧ xs.length ≤ i⟩
theorem turn_enum {P : Program} {w : World} {K : PySem.W.Frag} {elts : List Expr} {kk : Nat} {tpos : Pos} (a e it : Addr) :
    Turn P w K (.Tuple elts kk tpos) (Ite K a) [e, it] e (fun i h => (∃ old, IsEnum h e it ((i : Nat) : Int) old) ∧ h.IsListIter it a i ∧ e ≠ it) where
  mem := by simp
  obj := fun i h st b hb => by
    obtain ⟨⟨old, he⟩, ⟨o, ho, hc, hd⟩, _⟩ := st
    have e' : b = e ∨ b = it := by simpa using hb
    rcases e' with z | z
    · rw [z]; exact ⟨_, he, fun v q => nomatch q⟩
    · rw [z]; exact ⟨o, ho, fun v q => by rw [hd] at q; cases q⟩
  keep := fun i h h' st k => let ⟨⟨old, he⟩, hi, hne⟩ := st; ⟨⟨old, k e (by simp) _ he⟩, hi.at fun o q => k it (by simp) o q, hne⟩
  item := by
    intro X hP hw hK hc i pins s σ H E I hf st hg
    subst hP hw hK
    obtain ⟨⟨old, he⟩, hit, hne⟩ := st
    obtain ⟨xs, x, hq, hx⟩ := hg
    obtain ⟨its, rv, p, hz⟩ := I.list hq
    obtain ⟨u, hu, ru⟩ := rv.get hx
    have hel : e < s.heap.objs.size := Heap.lt_size he
    have hil : it < s.heap.objs.size := by obtain ⟨_, q, _⟩ := hit; exact Heap.lt_size q
    refine wpAny_pyNext_enum_item he hit p.isList (x := u) (by simpa using hu) hne fun h' ho hit' hT hsz hk => ?_
    refine ⟨_, rfl, wpAny_letOwnedTupleGo_enum (s := { s with heap := h', toks := s.toks + 1 }) ho fun h'' he' sb => ?_⟩
    have hT2 : h''.get? s.heap.objs.size = some { cls := .type "tuple", data := .seq #[.int i s.toks, u] } := (sb.2 _ (Nat.ne_of_gt hel)).trans hT
    have new : ObjOk X.prog X.w (upd H s.heap.objs.size (.tup [.int (i : Nat), x])) h'' s.heap.objs.size (.tup [.int (i : Nat), x]) :=
      ⟨by show 2 ≤ sizeLine; decide, [.int i s.toks, u], .cons ⟨_, rfl⟩ (.cons ru .nil), ⟨_, hT2, rfl, _, rfl⟩⟩
    have I1 : Inv X pins σ (upd H s.heap.objs.size (.tup [.int (i : Nat), x])) { s with heap := h'', toks := s.toks + 1 } :=
      I.turnedNew (ch := [e, it]) (fun b ob hb q => (sb.2 b (fun z => hb (by simp [z]))).trans (hk b ob (fun z => hb (by simp [z])) (fun z => hb (by simp [z])) q)) hf (Nat.le_refl _) new
    refine ⟨.ref s.heap.objs.size, _, I1, rfl, ⟨_, x, rfl, I.hok.fresh (Nat.le_refl _), rfl, fun ys hy => by rw [I.list_inj hy hq]; exact hx⟩, ⟨⟨u, ?_⟩, hit'.at fun o q => (sb.2 it (Ne.symm hne)).trans q, hne⟩, fun b hb => ?_⟩
    · have e1 : ((i + 1 : Nat) : Int) = (i : Int) + 1 := by omega
      rw [e1]; exact he'
    · have hb' : b < s.heap.objs.size := by
        have e' : b = e ∨ b = it := by simpa using hb
        rcases e' with z | z
        · rw [z]; exact hel
        · rw [z]; exact hil
      rw [upd_ne (Nat.ne_of_lt hb')]
      exact (hf b hb).1
  done := by
    intro X hP hw hK hc i pins s σ H E I hf st hg
    subst hP hw hK
    obtain ⟨⟨old, he⟩, hit, hne⟩ := st
    obtain ⟨xs, hq, hx⟩ := hg
    obtain ⟨its, rv, p, hz⟩ := I.list hq
    obtain ⟨f0, f1, f2, f3, f4, f5⟩ := hf it (by simp)
    have hl := rv.length
    exact wpAny_pyNext_enum_end (I.ok.hd hc) he hit p.isList (by simp; omega) fun h' eb => ⟨rfl, I.turned (t' := s.toks) (fun b o hb q => eb b o hb q) f0 f1 f3 f4 f5⟩
  self := fun A i s Q E st h => let ⟨⟨_, he⟩, _⟩ := st; wpAny_pyIter_enum he h
def iEnum (K : PySem.W.Frag) (ta : TA) : TI := fun σ H R => ta σ H fun vs H1 => ∃ a xs, vs = [.ref a] ∧ SqL K H1 a xs ∧ R (Ite K a) H1
theorem pi_enum {X : Cx} {e : Expr} {ta : TA} {p pos tpos : Pos} {elts : List Expr} {kk : Nat} (hg : Gl X "enumerate") (hm : X.mg "enumerate" = none) (ha : PA X [e] ta) (hs : starEach [e] X.env = [(false, eval e X.env)] := by rfl) :
    PI X (.Tuple elts kk tpos) (.Call (.Name "enumerate" p) [e] [] pos) (iEnum X.K ta) := by
  intro pins s σ H R I h
  refine Call_ (ld_blt I hg hm boot_enumerate (PyProof.Rows.callWith_type1 (thn (ha pos pins s σ H _ I h) fun us s1 ⟨vs, H1, I1, r1, q1⟩ => ?_) hs rfl))
  obtain ⟨a, xs, ex, hq, q⟩ := q1
  subst ex
  cases r1 with
  | cons r rr =>
    cases rr
    cases r
    obtain ⟨its, rv, p', hz⟩ := I1.list hq
    refine call_enumerate_list p'.isList fun h' he hit hsz hk => wpAny_pyIter_enum he ?_
    have I2 : Inv X pins σ H1 { s1 with heap := h' } := I1.kept (t' := s1.toks) hk
    refine ⟨s1.heap.objs.size + 1, [s1.heap.objs.size + 1, s1.heap.objs.size], _, _, H1, rfl, I2, turn_enum a (s1.heap.objs.size + 1) s1.heap.objs.size, ⟨⟨.none, he⟩, hit, Nat.succ_ne_self _⟩, fun b hb => ?_, q⟩
    have e' : b = s1.heap.objs.size + 1 ∨ b = s1.heap.objs.size := by simpa using hb
    have hle : s1.heap.objs.size ≤ b := by
      rcases e' with z | z
      · rw [z]; exact Nat.le_add_right _ _
      · rw [z]; exact Nat.le_refl _
    exact I1.fpOk hle (I1.hok.fresh hle)
/-! ### zip(list, list) -/
end L2
section 
namespace Bits
open PySem PyProof.Rows
end Bits
end 
section 
namespace TL
open PySem PySem.Builtin PySem.Builtin.Str PySem.StrLaws
abbrev tl (x : Str) : List Nat := x.cps.toList
/-! ### the list functions -/
/-- S stands at the head of l -/
def pre (S l : List Nat) : Bool := l.take S.length == S
/-- l cut at each S from the left; k signs are still to be passed over -/
def spl (S : List Nat) : Nat → List Nat → List Nat → List (List Nat)
  | _, acc, [] => [acc]
  | 0, acc, c :: r => if pre S (c :: r) = true then acc :: spl S (S.length - 1) [] r else spl S 0 (acc ++ [c]) r
  | k + 1, acc, _ :: r => spl S k acc r
/-- what stands before the first S, and behind it -/
def par (S : List Nat) : List Nat → List Nat → Option (List Nat × List Nat)
  | _, [] => none
  | acc, c :: r => if pre S (c :: r) = true then some (acc, (c :: r).drop S.length) else par S (acc ++ [c]) r
/-! ### the model's split and partition are these -/
/-! ### computing spl and par -/
/-! ### digits -/
/-! ### words: x.split() -/
end TL
end 
namespace L2
open PySem PySem.Spec PyProof.Rows
section
variable {X : Cx} {pins : List (Addr × Obj)} {σ : St} {H : Hp} {s : Shared} {Q : VK}
end
section
variable {X : Cx}
/-! ### of a text alone -/
/-! ### of a text and a text -/
theorem mt1 {id : String} {g : Str → Str → V} (rule : ∀ (a b : Str) (t u : Tok) (s : Shared) (Q : Value → Shared → Prop), (∀ (v : Value) (k : Nat), RelV (g a b) v → Q v { s with toks := k }) →
    wpAny (model X.prog X.w) X.A (call (.builtin id) [.str a t, .str b u]) Q X.xe s) : MtR X id (fun x xs H Q => ∃ a b, x = .str a ∧ xs = [.str b] ∧ Q (g a b) H) := by
  intro pins s σ H x xs v us Q I rx rs h
  obtain ⟨a, b, rfl, rfl, h⟩ := h
  obtain ⟨t, rfl⟩ := rx
  cases rs with
  | cons r1 rs =>
    cases rs
    obtain ⟨u, rfl⟩ := r1
    exact rule a b t u s _ fun v k r => ⟨g a b, H, I.tok k, r, h⟩
theorem mt_count : MtR X "str.count" (fun x xs H Q => ∃ a b, x = .str a ∧ xs = [.str b] ∧ Q (.int (Txt.count a b)) H) :=
  mt1 (g := fun a b => .int (Txt.count a b)) fun _ _ _ _ s _ h => PySem.SC.count (h _ (s.toks + 1) ⟨_, rfl⟩)
end
section
variable {X : Cx} {o e : Expr} {to te : TE}
end
end L2
namespace L2
open PySem PySem.Spec PyProof.Rows
section
variable {X : Cx}
end
/-! ### slices of a text -/
theorem IsPart.raw {v : Value} {o : Option Int} (p : IsPart v o) : ∃ l : Option (Int × Tok), v = partValue l ∧ l.map (·.1) = o := by
  cases p with
  | none => exact ⟨none, rfl, rfl⟩
  | int i t => exact ⟨some (i, t), rfl, rfl⟩
end L2
namespace Att
open PySem PySem.W PySem.Calls PyProof.Rows
/-! ### the script -/
/-! ### the attachment: holds_open's last premise (the goal 'hc' behind k_head) from a wpAny of the law's body -/
/-! ### rules over ANY heap (no ledger) from facts about the written part K: the library's own take a ledger (News) for what they write -/
section
variable {prog : Program} {w : World} {A : Around} {E : Value → Shared → Prop} {s : Shared} {K : Frag}
/-! the whole heap as the ledger: makes every rule that writes through a ledger a rule over any heap -/
def ledger (h : Heap) (L d : Addr) : List (Addr × Obj) := (List.range h.objs.size).filterMap fun a => if a = L ∨ a = d then none else (h.get? a).map fun o => (a, o)
end
end Att
namespace L2
open PySem PySem.Spec PyProof.Rows
end L2
namespace L2
open PySem PySem.Spec PyProof.Rows
end L2
/-! SHORT WORDS over the layer: a def of the text, its body, what a loop and a test want. -/
namespace L2
open PySem PySem.Spec PyProof.Rows
/-! ### the text by places -/
/-- the j-th statement of a class's body -/
def inClass (s : Stmt) (j : Nat) : Stmt := match s with
  | .ClassDef _ _ _ body _ _ _ _ _ _ _ => body.getD j (.Pass ⟨0, 0, 0, 0⟩)
  | _ => .Pass ⟨0, 0, 0, 0⟩
def defArgs (s : Stmt) : Arguments := match s with
  | .FunctionDef _ a _ _ _ _ _ _ _ _ => a
  | _ => { posonlyargs := [], args := [], vararg := none, kwonlyargs := [], kw_defaults := [], kwarg := none, defaults := [] }
def defBody (s : Stmt) : List Stmt := match s with
  | .FunctionDef _ _ b _ _ _ _ _ _ _ => b
  | _ => []
def defScope (s : Stmt) : Scope := match s with
  | .FunctionDef _ _ _ _ _ _ sc _ _ _ => sc
  | _ => { kind := .function, names := [], isGenerator := false, isCoroutine := false }
/-! ### no exception leaves a def -/
abbrev CX0 : CXT := fun _ _ _ _ _ _ => False
abbrev E0 : XK := fun _ _ _ => False
theorem pass0 {X : Cx} : Passes CX0 X E0 := fun _ _ _ _ _ _ _ h => h.elim
/-! ### a def (or method) of the text as it stands behind the top -/
structure Fun (K : PySem.W.Frag) (x qual : Str) (st : Stmt) (f : Addr) (fd : FuncData) : Prop where
  ex : ∃ (oc : Value) (od : Option Addr) (kV doc pm : Value) (an : Option Addr) (cdv ct : Value) (osl : Array (Option Value)),
    fd = PySem.W.fnOf x qual (defArgs st) (defBody st) (defScope st) .none kV doc pm an cdv ct ∧ K.lookup f = some ⟨oc, od, .func fd, osl⟩ ∧ PySem.W.codeIn K cdv qual = true
  kp : PySem.W.keepIn K (.ref f) = true
section
variable {P : Program} {w : World} {K : PySem.W.Frag} {mg : Str → Option Value} {base : Heap}
/-- THE RULE for a def: its body as a term of rules, and the reading of that term -/
theorem Fun.ok {x qual : Str} {st : Stmt} {f : Addr} {fd : FuncData} {N ps : List Str} {k : Nat} {sp : Sp} (F : Fun K x qual st f fd) (S : FnScope N ps (defScope st)) (len : ∀ vs H Q E, sp vs H Q E → vs.length = ps.length)
    (hbody : ∀ (cdv : Value) (A : Around) (outer : List Env) (s : Shared) (H : Hp) (vs : List V) (Q : VK) (E : XK), Room k (A.deeper (envOfC qual (defScope st) s.heap.objs.size f cdv)) → sp vs H Q E →
      ∃ t, PSs (cxOf CX0 P w K mg base N qual (defScope st) f cdv A outer s H E).nox (defBody st) t ∧ t { nx := fun _ H' => Q .non H', rt := Q } (start N vs) H) : FnOk P w K mg base CX0 (k + 1) f fd ps sp := by
  obtain ⟨oc, od, kV, doc, pm, an, cdv, ct, osl, rfl, lk, hcd⟩ := F.ex
  refine fn_of lk hcd S len fun A outer s H vs Q E hr hsp => ?_
  obtain ⟨t, h, q⟩ := hbody cdv A outer s H vs Q E hr hsp
  exact ⟨t, h.nox, q⟩
/-- how its arguments bind (no defaults): h is «fun _ _ _ _ _ _ us hl => match us, hl with | [_, _], _ => rfl», one _ a parameter -/
theorem Fun.binds {x qual : Str} {st : Stmt} {f : Addr} {fd : FuncData} {ps : List Str} (F : Fun K x qual st f fd)
    (h : ∀ (kV doc pm : Value) (an : Option Addr) (cdv ct : Value) (us : List Value), us.length = ps.length → bindArgs (PySem.W.fnOf x qual (defArgs st) (defBody st) (defScope st) .none kV doc pm an cdv ct) ⟨us, []⟩ = pure (ps.zip us)) : Binds K fd ps [] := by
  obtain ⟨oc, od, kV, doc, pm, an, cdv, ct, osl, rfl, lk, hcd⟩ := F.ex
  exact .all (h kV doc pm an cdv ct)
theorem fun_mk {x qual : Str} {st : Stmt} {f : Addr} {oc : Value} {od an : Option Addr} {osl : Array (Option Value)} {kV doc pm cdv ct : Value} (l : K.lookup f = some ⟨oc, od, .func (PySem.W.fnOf x qual (defArgs st) (defBody st) (defScope st) .none kV doc pm an cdv ct), osl⟩)
    (c : PySem.W.codeIn K cdv qual = true) (k : PySem.W.keepIn K (.ref f) = true) : Fun K x qual st f (PySem.W.fnOf x qual (defArgs st) (defBody st) (defScope st) .none kV doc pm an cdv ct) := ⟨⟨oc, od, kV, doc, pm, an, cdv, ct, osl, rfl, l, c⟩, k⟩
end
/-! ### expressions in short: the name that stands in the i-th slot -/
section
variable {X : Cx}
theorem pv (i : Nat) {x : Str} {pos : Pos} (hN : X.N[i]? = some x := by rfl) (hv : Vis X.env.scope x := by first | exact Or.inl rfl | exact Or.inr (Or.inl rfl) | exact Or.inr (Or.inr rfl)) (hd : (x == ("__debug__" : Str)) = false := by decide)
    (hcd : (x == ("__classdict__" : Str)) = false := by decide) : PE X (.Name x pos) (tVar i) := pe_var hN hv hd hcd
end
/-! ### tests -/
theorem iteF {A B : Prop} (h : B) : if false = true then A else B := by
  rw [if_neg Bool.false_ne_true]
  exact h
theorem iteT {A B : Prop} (h : A) : if true = true then A else B := by
  rw [if_pos rfl]
  exact h
theorem ite2 {c A B : Prop} [Decidable c] (h1 : c → A) (h2 : ¬ c → B) : if c then A else B := by
  by_cases h : c
  · rw [if_pos h]
    exact h1 h
  · rw [if_neg h]
    exact h2 h
/-! ### heaps -/
/-- all that was tracked is as it was -/
def Same (H H' : Hp) : Prop := ∀ b o, H b = some o → H' b = some o
theorem Same.refl (H : Hp) : Same H H := fun _ _ h => h
theorem Same.trans {H H1 H2 : Hp} (a : Same H H1) (b : Same H1 H2) : Same H H2 := fun c o h => b c o (a c o h)
theorem Same.free {H H' : Hp} (e : Same H H') {l : Addr} (h : H' l = Option.none) : H l = Option.none := by
  cases q : H l with
  | none => rfl
  | some o =>
    rw [e l o q] at h
    cases h
theorem Same.seq {K : PySem.W.Frag} {H H' : Hp} {a : Addr} {xs : List V} (e : Same H H') (h : SqL K H a xs) : SqL K H' a xs := by
  rcases h with (h | ⟨o, h⟩) | h
  · exact .inl (.inl (e _ _ h))
  · exact .inl (.inr ⟨o, e _ _ h⟩)
  · exact .inr h
/-! ### a dict's pairs: keys that differ -/
section
variable {κ : Type} [DecidableEq κ]
end
/-! ### lists -/
theorem at_of {xs : List V} {z : Int} {j : Nat} {v : V} (e : z = (j : Int)) (h : xs[j]? = some v) : atI xs z = some v := by
  rw [e]
  exact atI_nat h
/-- a new instance and its __init__ leave all that was tracked as it was -/
theorem Same.made {H H1 : Hp} {x dx C : Addr} (nx : H x = Option.none) (nd : H dx = Option.none) (k : ∀ b o, (upd (upd H dx (.own x)) x (.ins C dx [])) b = some o → b ≠ x → H1 b = some o) : Same H H1 := fun b o e =>
  k b o (by rw [upd_ne (ne_of_none e nx), upd_ne (ne_of_none e nd)]; exact e) (ne_of_none e nx)
end L2
set_option Elab.async false
set_option linter.all false
set_option maxRecDepth 100000
section
set_option maxHeartbeats 2000000
namespace L2
open PySem PySem.Spec PyProof.Rows
open PySem.W (WData Codec OpenSpec Well WellAll ReadsW ReadsAllW)
/-! ### an answer as data -/
mutual
/-- x stands for the datum d, lists and tuples all the way -/
inductive Dw (K : PySem.W.Frag) (H : Hp) : V → WData → Prop
  | non : Dw K H .non .none
  | bl (b : Bool) : Dw K H (.bl b) (.bool b)
  | int (i : Int) : Dw K H (.int i) (.int i)
  | str (x : Str) : Dw K H (.str x) (.str x)
  | byt (b : Array UInt8) : Dw K H (.byt b) (.bytes b.toList)
  | lst {a : Addr} {xs : List V} {ds : List WData} : SqL K H a xs → DwAll K H xs ds → Dw K H (.ref a) (.list ds)
  | tup {a : Addr} {xs : List V} {ds : List WData} : SqT K H a xs → DwAll K H xs ds → Dw K H (.ref a) (.tuple ds)
inductive DwAll (K : PySem.W.Frag) (H : Hp) : List V → List WData → Prop
  | nil : DwAll K H [] []
  | cons {v : V} {vs : List V} {d : WData} {ds : List WData} : Dw K H v d → DwAll K H vs ds → DwAll K H (v :: vs) (d :: ds)
end
theorem dw_ints {K : PySem.W.Frag} {H : Hp} : ∀ ns : List Int, DwAll K H (ns.map V.int) (ns.map WData.int)
  | [] => .nil
  | n :: r => .cons (.int n) (dw_ints r)
theorem ints_dw {K : PySem.W.Frag} {H : Hp} : ∀ (ns : List Int) (xs : List V), DwAll K H xs (ns.map WData.int) → xs = ns.map V.int
  | [], xs, h => by
    cases h
    rfl
  | n :: r, xs, h => by
    cases h with
    | cons h1 h2 =>
      cases h1
      rw [ints_dw r _ h2] <;> rfl
section
variable {P : Program} {w : World} {K : PySem.W.Frag} {H : Hp} {h : Heap} {R : PySem.W.WRecords} {cl : Str → Option Addr}
theorem sqL_at {a : Addr} {xs : List V} (hok : HOk P w H h) (KX : K.In h) (q : SqL K H a xs) : ∃ (its : List Value) (o : Obj) (n : Nat), Vals xs its ∧ h.get? a = some o ∧ o.cls = .type "list" ∧ o.data = .seq its.toArray n := by
  rcases q with q | ⟨o, its, n, e, hc, _, hd, _, hv⟩
  · obtain ⟨_, its, n, hv, e⟩ := (show ObjOk P w H h a (.lst xs) from q.ok hok)
    exact ⟨its, _, n, hv, e, rfl, rfl⟩
  · exact ⟨its.toList, o, n, hv, KX _ _ e, hc, by simp [hd]⟩
theorem sqT_at {a : Addr} {xs : List V} (hok : HOk P w H h) (KX : K.In h) (q : SqT K H a xs) : ∃ (its : List Value) (o : Obj) (n : Nat), Vals xs its ∧ h.get? a = some o ∧ o.cls = .type "tuple" ∧ o.data = .seq its.toArray n := by
  rcases q with q | ⟨o, its, n, e, hc, hd, _, hv⟩
  · obtain ⟨_, its, hv, o, e, hc, n, hd⟩ := (show ObjOk P w H h a (.tup xs) from q.ok hok)
    exact ⟨its, o, n, hv, e, hc, hd⟩
  · exact ⟨its.toList, o, n, hv, KX _ _ e, hc, by simp [hd]⟩
mutual
theorem Dw.reads (hok : HOk P w H h) (KX : K.In h) : ∀ (d : WData) (v : V) (u : Value), Dw K H v d → RelV v u → ∃ as, ReadsW R cl h u d as
  | .none, _, _, x, r => by
    cases x
    cases r
    exact ⟨_, ReadsW.none⟩
  | .bool b, _, _, x, r => by
    cases x
    cases r
    exact ⟨_, ReadsW.bool b⟩
  | .int i, _, _, x, r => by
    cases x
    obtain ⟨t, rfl⟩ := r
    exact ⟨_, ReadsW.int i t⟩
  | .str s, _, _, x, r => by
    cases x
    obtain ⟨t, rfl⟩ := r
    exact ⟨_, ReadsW.str s t⟩
  | .bytes b, _, _, x, r => by
    cases x
    obtain ⟨t, rfl⟩ := r
    exact ⟨_, ReadsW.bytes _ t⟩
  | .list ds, _, _, x, r => by
    cases x with
    | lst hs ha =>
      cases r
      obtain ⟨its, o, n, rv, ho, hc, hd⟩ := sqL_at hok KX hs
      obtain ⟨as, hr⟩ := Dw.readsAll hok KX ds _ its ha rv
      exact ⟨_, ReadsW.list ho hc hd hr⟩
  | .tuple ds, _, _, x, r => by
    cases x with
    | tup hs ha =>
      cases r
      obtain ⟨its, o, n, rv, ho, hc, hd⟩ := sqT_at hok KX hs
      obtain ⟨as, hr⟩ := Dw.readsAll hok KX ds _ its ha rv
      exact ⟨_, ReadsW.tuple ho hc hd hr⟩
  | .float _, _, _, x, _ => by cases x
  | .dict _, _, _, x, _ => by cases x
  | .bytearray _, _, _, x, _ => by cases x
  | .set _, _, _, x, _ => by cases x
  | .frozenset _, _, _, x, _ => by cases x
  | .obj _ _, _, _, x, _ => by cases x
theorem Dw.readsAll (hok : HOk P w H h) (KX : K.In h) : ∀ (ds : List WData) (vs : List V) (us : List Value), DwAll K H vs ds → Vals vs us → ∃ as, ReadsAllW R cl h us ds as
  | [], _, _, x, r => by
    cases x
    cases r
    exact ⟨_, ReadsAllW.nil⟩
  | d :: ds, _, _, x, r => by
    cases x with
    | cons h1 h2 =>
      cases r with
      | cons r1 r2 =>
        obtain ⟨as, q1⟩ := Dw.reads hok KX d _ _ h1 r1
        obtain ⟨bs, q2⟩ := Dw.readsAll hok KX ds _ _ h2 r2
        exact ⟨_, ReadsAllW.cons q1 q2⟩
end
end
/-! ### the arguments -/
mutual
/-- data that a codec tells -/
def plW : WData → Bool
  | .none => true
  | .bool _ => true
  | .int _ => true
  | .str _ => true
  | .bytes _ => true
  | .list xs => plWs xs
  | .tuple xs => plWs xs
  | _ => false
def plWs : List WData → Bool
  | [] => true
  | x :: r => plW x && plWs r
end
theorem plWs_map {α : Type} {f : α → WData} (h : ∀ a, plW (f a) = true) : ∀ l : List α, plWs (l.map f) = true
  | [] => rfl
  | x :: r => by
    show (plW (f x) && plWs (r.map f)) = true
    rw [h x, plWs_map h r] <;> rfl
theorem pl_enc : ∀ (c : Codec) (a : c.denote), plW (c.enc a) = true
  | .unit, _ => rfl
  | .bool, _ => rfl
  | .int _ _, _ => rfl
  | .nat _ _, _ => rfl
  | .u8, _ => rfl
  | .bytes _ _, _ => rfl
  | .text _ _ _ _, _ => rfl
  | .list _ _ c, a => plWs_map (fun x => pl_enc c x) a
  | .pair c d, a => by
    show (plW (c.enc a.1) && (plW (d.enc a.2) && true)) = true
    rw [pl_enc c a.1, pl_enc d a.2] <;> rfl
  | .triple c d e, a => by
    show (plW (c.enc a.1) && (plW (d.enc a.2.1) && (plW (e.enc a.2.2) && true))) = true
    rw [pl_enc c a.1, pl_enc d a.2.1, pl_enc e a.2.2] <;> rfl
  | .option c, none => rfl
  | .option c, some x => pl_enc c x
theorem pl_encAll : ∀ (cs : List Codec) (a : Codec.denoteAll cs), plWs (Codec.encAll cs a) = true
  | [], _ => rfl
  | c :: cs, a => by
    show (plW (c.enc a.1) && plWs (Codec.encAll cs a.2)) = true
    rw [pl_enc c a.1, pl_encAll cs a.2] <;> rfl
theorem weight_mem : ∀ {xs : List WData} {d : WData}, d ∈ xs → d.weight ≤ WData.weightAll xs
  | [], d, h => absurd h (by simp)
  | x :: r, d, h => by
    show d.weight ≤ x.weight + 1 + WData.weightAll r
    rcases List.mem_cons.mp h with e | m
    · rw [e]
      omega
    · have z := weight_mem m
      omega
def toV : Value → V
  | .none => .non
  | .bool b => .bl b
  | .int i _ => .int i
  | .str x _ => .str x
  | .bytes b _ => .byt b
  | .ref a => .ref a
  | _ => .non
/-- a value of the arguments, its objects among A -/
def OkU (A : List Addr) : Value → Prop
  | .none => True
  | .bool _ => True
  | .int _ _ => True
  | .str _ _ => True
  | .bytes _ _ => True
  | .ref a => a ∈ A
  | _ => False
theorem OkU.mono {A B : List Addr} (h : ∀ a ∈ A, a ∈ B) : ∀ {u : Value}, OkU A u → OkU B u := fun {u} x => by
  cases u with
  | ref a => exact h a x
  | none => trivial
  | bool b => trivial
  | int i t => trivial
  | str s t => trivial
  | bytes b t => trivial
  | _ => exact False.elim x
theorem relV_toV {A : List Addr} {u : Value} (x : OkU A u) : RelV (toV u) u := by
  cases u with
  | ref a => rfl
  | none => rfl
  | bool b => rfl
  | int i t => exact ⟨t, rfl⟩
  | str s t => exact ⟨t, rfl⟩
  | bytes b t => exact ⟨t, rfl⟩
  | _ => exact False.elim x
theorem vals_toV {A : List Addr} : ∀ {vs : List Value}, (∀ u ∈ vs, OkU A u) → Vals (vs.map toV) vs
  | [], _ => .nil
  | u :: r, h => .cons (relV_toV (h u (List.mem_cons_self ..))) (vals_toV fun x hx => h x (List.mem_cons_of_mem _ hx))
/-- an object of the arguments -/
def ArgOb (h : Heap) (A : List Addr) (a : Addr) : Prop := ∃ vs : List Value, vs.length ≤ sizeLine ∧ (∀ u ∈ vs, OkU A u) ∧
  (h.get? a = some { cls := .type "list", data := .seq vs.toArray } ∨ h.get? a = some { cls := .type "tuple", data := .seq vs.toArray })
theorem ArgOb.mono {h : Heap} {A B : List Addr} {a : Addr} (k : ∀ a ∈ A, a ∈ B) (x : ArgOb h A a) : ArgOb h B a := by
  obtain ⟨vs, h1, h2, h3⟩ := x
  exact ⟨vs, h1, fun u hu => (h2 u hu).mono k, h3⟩
theorem wellAll_len {P : Params} {h : Heap} : ∀ {vs : List Value} {ds : List WData}, WellAll P h vs ds → vs.length = ds.length
  | _, _, .nil => rfl
  | _, _, .cons _ b => by
    show _ + 1 = _ + 1
    rw [wellAll_len b]
theorem well_list {P : Params} {h : Heap} {v : Value} {ds : List WData} (x : Well P h v (.list ds)) : ∃ (a : Addr) (vs : List Value), v = .ref a ∧ h.get? a = some { cls := .type "list", data := .seq vs.toArray } ∧ WellAll P h vs ds := by
  cases x with
  | list ho hall => exact ⟨_, _, rfl, ho, hall⟩
theorem well_tuple {P : Params} {h : Heap} {v : Value} {ds : List WData} (x : Well P h v (.tuple ds)) : ∃ (a : Addr) (vs : List Value), v = .ref a ∧ h.get? a = some { cls := .type "tuple", data := .seq vs.toArray } ∧ WellAll P h vs ds := by
  cases x with
  | tuple ho hall => exact ⟨_, _, rfl, ho, hall⟩
theorem well_cons {P : Params} {h : Heap} {us : List Value} {d : WData} {ds : List WData} (x : WellAll P h us (d :: ds)) : ∃ (v : Value) (vs : List Value), us = v :: vs ∧ Well P h v d ∧ WellAll P h vs ds := by
  cases x with
  | cons a b => exact ⟨_, _, rfl, a, b⟩
theorem line_of {n : Nat} (h : n ≤ 1048576) : n ≤ sizeLine := Nat.le_trans h (by decide)
section
variable {P : Params} {h : Heap}
mutual
theorem area_one : ∀ (d : WData) (v : Value), Well P h v d → plW d = true → d.weight ≤ 1048576 → ∃ A : List Addr, OkU A v ∧ ∀ a ∈ A, ArgOb h A a
  | .none, _, x, _, _ => by
    cases x
    exact ⟨[], trivial, fun a m => absurd m (by simp)⟩
  | .bool b, _, x, _, _ => by
    cases x
    exact ⟨[], trivial, fun a m => absurd m (by simp)⟩
  | .int i, _, x, _, _ => by
    cases x
    exact ⟨[], trivial, fun a m => absurd m (by simp)⟩
  | .str s, _, x, _, _ => by
    cases x
    exact ⟨[], trivial, fun a m => absurd m (by simp)⟩
  | .bytes b, _, x, _, _ => by
    cases x
    exact ⟨[], trivial, fun a m => absurd m (by simp)⟩
  | .list ds, _, x, p, z => by
    obtain ⟨a, vs, rfl, ho, hall⟩ := well_list x
    have z2 : WData.weightAll ds ≤ 1048576 := z
    obtain ⟨A, h1, h2⟩ := area_all ds _ hall p fun d hd => Nat.le_trans (weight_mem hd) z2
    have k : ∀ b ∈ A, b ∈ a :: A := fun b hb => List.mem_cons_of_mem _ hb
    refine ⟨a :: A, List.mem_cons_self .., fun b hb => ?_⟩
    rcases List.mem_cons.mp hb with e | m
    · rw [e]
      exact ⟨vs, line_of (by rw [wellAll_len hall]; exact Nat.le_trans (PySem.W.length_le_weightAllW ds) z2), fun u hu => (h1 u hu).mono k, .inl ho⟩
    · exact (h2 b m).mono k
  | .tuple ds, _, x, p, z => by
    obtain ⟨a, vs, rfl, ho, hall⟩ := well_tuple x
    have z2 : WData.weightAll ds ≤ 1048576 := z
    obtain ⟨A, h1, h2⟩ := area_all ds _ hall p fun d hd => Nat.le_trans (weight_mem hd) z2
    have k : ∀ b ∈ A, b ∈ a :: A := fun b hb => List.mem_cons_of_mem _ hb
    refine ⟨a :: A, List.mem_cons_self .., fun b hb => ?_⟩
    rcases List.mem_cons.mp hb with e | m
    · rw [e]
      exact ⟨vs, line_of (by rw [wellAll_len hall]; exact Nat.le_trans (PySem.W.length_le_weightAllW ds) z2), fun u hu => (h1 u hu).mono k, .inr ho⟩
    · exact (h2 b m).mono k
  | .float _, _, _, p, _ => Bool.noConfusion (show false = true from p)
  | .dict _, _, _, p, _ => Bool.noConfusion (show false = true from p)
  | .bytearray _, _, _, p, _ => Bool.noConfusion (show false = true from p)
  | .set _, _, _, p, _ => Bool.noConfusion (show false = true from p)
  | .frozenset _, _, _, p, _ => Bool.noConfusion (show false = true from p)
  | .obj _ _, _, _, p, _ => Bool.noConfusion (show false = true from p)
theorem area_all : ∀ (ds : List WData) (vs : List Value), WellAll P h vs ds → plWs ds = true → (∀ d ∈ ds, d.weight ≤ 1048576) → ∃ A : List Addr, (∀ u ∈ vs, OkU A u) ∧ ∀ a ∈ A, ArgOb h A a
  | [], _, x, _, _ => by
    cases x
    exact ⟨[], fun u m => absurd m (by simp), fun a m => absurd m (by simp)⟩
  | d :: ds, _, x, p, z => by
    obtain ⟨v, vs, rfl, x1, x2⟩ := well_cons x
    have q : plW d = true ∧ plWs ds = true := Bool.and_eq_true_iff.mp p
    obtain ⟨A, a1, a2⟩ := area_one d v x1 q.1 (z d (List.mem_cons_self ..))
    obtain ⟨B, b1, b2⟩ := area_all ds vs x2 q.2 fun e he => z e (List.mem_cons_of_mem _ he)
    have kA : ∀ b ∈ A, b ∈ A ++ B := fun b hb => List.mem_append.mpr (.inl hb)
    have kB : ∀ b ∈ B, b ∈ A ++ B := fun b hb => List.mem_append.mpr (.inr hb)
    refine ⟨A ++ B, fun u hu => ?_, fun b hb => ?_⟩
    · rcases List.mem_cons.mp hu with e | m
      · rw [e]
        exact a1.mono kA
      · exact (b1 u m).mono kB
    · rcases List.mem_append.mp hb with m | m
      · exact (a2 b m).mono kA
      · exact (b2 b m).mono kB
end
end
/-- what is tracked of an argument's object -/
def hoOf (o : Obj) : Option HO := match o.data with
  | .seq vs _ => if (o.cls == Value.type "list") = true then some (.frz o (.lst (vs.toList.map toV))) else some (.frz o (.tup (vs.toList.map toV)))
  | _ => none
def argH (K : PySem.W.Frag) (h : Heap) (A : List Addr) : Hp := fun b => if b ∈ A then (if (K.lookup b).isNone = true then (h.get? b).bind hoOf else none) else none
/-- nothing is tracked but what is known to the object -/
def OnlyF (H : Hp) : Prop := ∀ b, H b = none ∨ ∃ o u, H b = some (.frz o u)
theorem hoOf_lst (vs : List Value) : hoOf { cls := .type "list", data := .seq vs.toArray } = some (.frz { cls := .type "list", data := .seq vs.toArray } (.lst (vs.map toV))) := by
  show (if (Value.type "list" == Value.type "list") = true then some (HO.frz { cls := .type "list", data := .seq vs.toArray } (.lst (vs.toArray.toList.map toV))) else some (HO.frz { cls := .type "list", data := .seq vs.toArray } (.tup (vs.toArray.toList.map toV)))) = _
  rw [if_pos (beq_self_eq_true _)]
theorem hoOf_tup (vs : List Value) : hoOf { cls := .type "tuple", data := .seq vs.toArray } = some (.frz { cls := .type "tuple", data := .seq vs.toArray } (.tup (vs.map toV))) := by
  show (if (Value.type "tuple" == Value.type "list") = true then some (HO.frz { cls := .type "tuple", data := .seq vs.toArray } (.lst (vs.toArray.toList.map toV))) else some (HO.frz { cls := .type "tuple", data := .seq vs.toArray } (.tup (vs.toArray.toList.map toV)))) = _
  rw [if_neg (by decide)]
section
variable {P : Program} {w : World} {K : PySem.W.Frag} {h : Heap} {A : List Addr}
theorem argH_at {b : Addr} {o : Obj} (hb : b ∈ A) (hk : K.lookup b = none) (e : h.get? b = some o) : argH K h A b = hoOf o := by
  unfold argH
  rw [if_pos hb, hk, if_pos (show (none : Option Obj).isNone = true from rfl), e] <;> rfl
theorem of_argH {b : Addr} {u : HO} (q : argH K h A b = some u) : b ∈ A ∧ K.lookup b = none := by
  unfold argH at q
  by_cases hb : b ∈ A
  · rw [if_pos hb] at q
    cases hk : K.lookup b with
    | none => exact ⟨hb, rfl⟩
    | some o =>
      rw [hk, if_neg (by simp)] at q
      cases q
  · rw [if_neg hb] at q
    cases q
/-- what stands tracked -/
theorem argH_is (ar : ∀ a ∈ A, ArgOb h A a) {b : Addr} {u : HO} (q : argH K h A b = some u) : K.lookup b = none ∧ ∃ vs : List Value, vs.length ≤ sizeLine ∧ (∀ u ∈ vs, OkU A u) ∧
    ((h.get? b = some { cls := .type "list", data := .seq vs.toArray } ∧ u = .frz { cls := .type "list", data := .seq vs.toArray } (.lst (vs.map toV))) ∨
     (h.get? b = some { cls := .type "tuple", data := .seq vs.toArray } ∧ u = .frz { cls := .type "tuple", data := .seq vs.toArray } (.tup (vs.map toV)))) := by
  obtain ⟨hb, hk⟩ := of_argH q
  obtain ⟨vs, h1, h2, h3⟩ := ar b hb
  refine ⟨hk, vs, h1, h2, ?_⟩
  rcases h3 with e | e
  · rw [argH_at hb hk e, hoOf_lst] at q
    exact .inl ⟨e, (Option.some.inj q).symm⟩
  · rw [argH_at hb hk e, hoOf_tup] at q
    exact .inr ⟨e, (Option.some.inj q).symm⟩
theorem argH_only (ar : ∀ a ∈ A, ArgOb h A a) : OnlyF (argH K h A) := fun b => by
  cases q : argH K h A b with
  | none => exact .inl rfl
  | some u =>
    obtain ⟨_, vs, _, _, ⟨_, e⟩ | ⟨_, e⟩⟩ := argH_is ar q
    · exact .inr ⟨_, _, by rw [e]⟩
    · exact .inr ⟨_, _, by rw [e]⟩
theorem argH_ok (ar : ∀ a ∈ A, ArgOb h A a) : HOk P w (argH K h A) h := fun b u q => by
  obtain ⟨_, vs, h1, h2, ⟨e, rfl⟩ | ⟨e, rfl⟩⟩ := argH_is ar q
  · exact ⟨e, by rw [List.length_map]; exact h1, vs, _, vals_toV h2, e⟩
  · exact ⟨e, by rw [List.length_map]; exact h1, vs, vals_toV h2, _, e, rfl, _, rfl⟩
theorem seq_inj {c c' : Value} {vs us : List Value} (e : (some { cls := c, data := .seq vs.toArray } : Option Obj) = some { cls := c', data := .seq us.toArray }) : c = c' ∧ vs = us := by
  have e1 := Option.some.inj e
  have e2 : c = c' := congrArg Obj.cls e1
  have e3 : Data.seq vs.toArray = Data.seq us.toArray := congrArg Obj.data e1
  injection e3 with e4
  refine ⟨e2, ?_⟩
  have e5 := congrArg Array.toList e4
  simpa using e5
/-- a list argument -/
theorem argL (KX : K.In h) (ar : ∀ a ∈ A, ArgOb h A a) {a : Addr} {vs : List Value} (ha : a ∈ A) (e : h.get? a = some { cls := .type "list", data := .seq vs.toArray }) : (∀ u ∈ vs, OkU A u) ∧ SqL K (argH K h A) a (vs.map toV) := by
  obtain ⟨us, h1, h2, h3⟩ := ar a ha
  have hu : us = vs := by
    rcases h3 with q | q
    · rw [e] at q
      exact (seq_inj q).2.symm
    · rw [e] at q
      exact absurd (Value.type.inj (seq_inj q).1) (by decide)
  subst hu
  refine ⟨h2, ?_⟩
  cases hk : K.lookup a with
  | none => exact .inl (.inr ⟨_, by rw [argH_at ha hk e, hoOf_lst]⟩)
  | some o =>
    have e2 := KX a o hk
    rw [e] at e2
    obtain rfl := Option.some.inj e2
    exact .inr ⟨_, us.toArray, _, hk, rfl, rfl, rfl, by rw [List.size_toArray]; exact h1, by simpa using vals_toV h2⟩
theorem argT (KX : K.In h) (ar : ∀ a ∈ A, ArgOb h A a) {a : Addr} {vs : List Value} (ha : a ∈ A) (e : h.get? a = some { cls := .type "tuple", data := .seq vs.toArray }) : (∀ u ∈ vs, OkU A u) ∧ SqT K (argH K h A) a (vs.map toV) := by
  obtain ⟨us, h1, h2, h3⟩ := ar a ha
  have hu : us = vs := by
    rcases h3 with q | q
    · rw [e] at q
      exact absurd (Value.type.inj (seq_inj q).1) (by decide)
    · rw [e] at q
      exact (seq_inj q).2.symm
  subst hu
  refine ⟨h2, ?_⟩
  cases hk : K.lookup a with
  | none => exact .inl (.inr ⟨_, by rw [argH_at ha hk e, hoOf_tup]⟩)
  | some o =>
    have e2 := KX a o hk
    rw [e] at e2
    obtain rfl := Option.some.inj e2
    exact .inr ⟨_, us.toArray, _, hk, rfl, rfl, by rw [List.size_toArray]; exact h1, by simpa using vals_toV h2⟩
mutual
theorem dw_one {Pm : Params} (KX : K.In h) (ar : ∀ a ∈ A, ArgOb h A a) : ∀ (d : WData) (v : Value), Well Pm h v d → plW d = true → OkU A v → Dw K (argH K h A) (toV v) d
  | .none, _, x, _, _ => by
    cases x
    exact .non
  | .bool b, _, x, _, _ => by
    cases x
    exact .bl b
  | .int i, _, x, _, _ => by
    cases x
    exact .int i
  | .str s, _, x, _, _ => by
    cases x
    exact .str s
  | .bytes b, _, x, _, _ => by
    cases x
    have z := Dw.byt (K := K) (H := argH K h A) b.toArray
    exact z
  | .list ds, _, x, p, hu => by
    obtain ⟨a, vs, rfl, ho, hall⟩ := well_list x
    obtain ⟨h2, hs⟩ := argL KX ar hu ho
    exact .lst hs (dw_all KX ar ds _ hall p h2)
  | .tuple ds, _, x, p, hu => by
    obtain ⟨a, vs, rfl, ho, hall⟩ := well_tuple x
    obtain ⟨h2, hs⟩ := argT KX ar hu ho
    exact .tup hs (dw_all KX ar ds _ hall p h2)
  | .float _, _, _, p, _ => Bool.noConfusion (show false = true from p)
  | .dict _, _, _, p, _ => Bool.noConfusion (show false = true from p)
  | .bytearray _, _, _, p, _ => Bool.noConfusion (show false = true from p)
  | .set _, _, _, p, _ => Bool.noConfusion (show false = true from p)
  | .frozenset _, _, _, p, _ => Bool.noConfusion (show false = true from p)
  | .obj _ _, _, _, p, _ => Bool.noConfusion (show false = true from p)
theorem dw_all {Pm : Params} (KX : K.In h) (ar : ∀ a ∈ A, ArgOb h A a) : ∀ (ds : List WData) (vs : List Value), WellAll Pm h vs ds → plWs ds = true → (∀ u ∈ vs, OkU A u) → DwAll K (argH K h A) (vs.map toV) ds
  | [], _, x, _, _ => by
    cases x
    exact .nil
  | d :: ds, _, x, p, hu => by
    obtain ⟨v, vs, rfl, x1, x2⟩ := well_cons x
    have q : plW d = true ∧ plWs ds = true := Bool.and_eq_true_iff.mp p
    exact .cons (dw_one KX ar d v x1 q.1 (hu _ (List.mem_cons_self ..))) (dw_all KX ar ds vs x2 q.2 fun u m => hu u (List.mem_cons_of_mem _ m))
end
end
/-! ### the call -/
theorem spec_call {P : Program} {w : World} {K : PySem.W.Frag} {mg mb : Str → Option Value} {CX : CXT} {k : Nat} {fa : Addr} {fd : FuncData} {ps : List Str} {sp : Sp} {s₁ : Shared} {vals : List Value} {ds : List WData} {R : PySem.W.WRecords} {cl : Str → Option Addr} {d0 : WData}
    (KX : K.In s₁.heap) (hns : s₁.heap.Ns mainGlobals mg) (hb : s₁.heap.Ns builtinsNs mb) (hbb : ∀ x : Str, x ≠ "__name__" → mb x = bootBuiltins x) (hlim : s₁.heap.NoLimit) (hg : s₁.gens = #[])
    (hwl : WellAll w.params s₁.heap vals ds) (hpl : plWs ds = true) (hwt : ∀ d ∈ ds, d.weight ≤ 1048576) (hr : Room k callerA)
    (F : ∀ base : Heap, K.In base → base.Ns mainGlobals mg → FnOk P w K mg base CX k fa fd ps sp) (hbind : ∀ (s : Shared) (us : List Value), us.length = ps.length → BindsTo s fd ⟨us, []⟩ (ps.zip us)) (hlen : ds.length = ps.length)
    (hsp : ∀ (H : Hp) (xs : List V), OnlyF H → DwAll K H xs ds → sp xs H (fun v H' => Dw K H' v d0) fun _ _ _ => False)
    (hCX : ∀ H e s', CX [] H s₁ (fun _ _ _ => False) e s' → False) :
    codeAny (model P w) callerA (.call (.ref fa) ⟨vals, []⟩) (fun r s' => ∃ u as, r = .ok (.ret u) ∧ ReadsW R cl s'.heap u d0 as ∧ OldK s₁.heap s'.heap ∧ s'.os = s₁.os ∧ AllBare s'.gens) s₁ := by
  obtain ⟨A, ho, ar⟩ := area_all ds vals hwl hpl hwt
  have hO : OnlyF (argH K s₁.heap A) := argH_only ar
  have hok : HOk P w (argH K s₁.heap A) s₁.heap := argH_ok ar
  have hS := dw_all KX ar ds vals hwl hpl ho
  have hV := vals_toV ho
  have hK : ∀ b u, argH K s₁.heap A b = some u → K.lookup b = none := fun b u q => (argH_is ar q).1
  have noA : ∀ {b : Addr} {o : Obj} {es : Array DictEntry} {ep : Nat}, s₁.heap.get? b = some o → o.data = .dict es ep → argH K s₁.heap A b = none := fun {b o es ep} e d => by
    cases q : argH K s₁.heap A b with
    | none => rfl
    | some u =>
      obtain ⟨_, vs, _, _, ⟨e2, _⟩ | ⟨e2, _⟩⟩ := argH_is ar q
      · rw [e2] at e
        cases e
        have d' : Data.seq vs.toArray _ = Data.dict es ep := d
        cases d'
      · rw [e2] at e
        cases e
        have d' : Data.seq vs.toArray _ = Data.dict es ep := d
        cases d'
  generalize argH K s₁.heap A = H at hO hok hS hK noA
  have base_of : ∀ {b : Addr} {o : Obj}, s₁.heap.get? b = some o → H b = none → (hidT s₁.heap H).get? b = some o := fun e n => hidT_get e n
  have nsK : ∀ {b : Addr} {m : Str → Option Value}, s₁.heap.Ns b m → (hidT s₁.heap H).Ns b m := fun {b m} ⟨o, es, ep, e, d, r⟩ => ⟨o, es, ep, base_of e (noA e d), d, r⟩
  have nK : ∀ b o, K.lookup b = some o → H b = none := fun b o e => by
    cases q : H b with
    | none => rfl
    | some u =>
      rw [hK b u q] at e
      cases e
  have hKb : K.In (hidT s₁.heap H) := fun b o e => base_of (KX b o e) (nK b o e)
  have hM : Mod K mg (hidT s₁.heap H) := ⟨hKb, nsK hns, ⟨mb, nsK hb, hbb⟩, let ⟨mc, h1, h2⟩ := hlim; ⟨mc, nsK h1, h2⟩⟩
  have e0 : Env0 P w K mg (hidT s₁.heap H) callerA [] s₁ H := ⟨rfl, hM, fun b o e => of_hidT e, Nat.le_of_eq (hidT_size _ _), trivial, fun b hb => absurd (show b ∈ ([] : List Addr) from hb) (by simp), hok, .of_eq hg⟩
  have hl : vals.length = ps.length := by rw [wellAll_len hwl]; exact hlen
  refine codeAny_mono ((F _ hKb (nsK hns)).run callerA [] s₁ H ⟨vals, []⟩ vals (vals.map toV) _ _ hr e0 (hbind s₁ vals hl) hV (hsp H _ hO hS)) fun r s' x => ?_
  cases r with
  | error e => exact (hCX H e s' x).elim
  | ok fl =>
    cases fl with
    | next => exact False.elim x
    | brk => exact False.elim x
    | cont => exact False.elim x
    | ret u =>
      obtain ⟨v, H', os, bare, un, hok', r', q⟩ := x
      have kept : ∀ b o, s₁.heap.get? b = some o → s'.heap.get? b = some o := fun b o e => by
        cases q2 : H b with
        | none => exact un.keep b o e q2 (by intro z; exact absurd (show b ∈ ([] : List Addr) from z) (by simp)) (by simp)
        | some u2 =>
          rcases hO b with z | ⟨ob, u3, z⟩
          · rw [q2] at z
            cases z
          · have z2 := un.frzs b ob _ z
            obtain ⟨e1, _⟩ := hok b _ z
            obtain ⟨e2, _⟩ := hok' b _ z2
            rw [e] at e1
            cases e1
            exact e2
      have KX' : K.In s'.heap := fun b o e => kept b o (KX b o e)
      obtain ⟨as, hrd⟩ := Dw.reads (R := R) (cl := cl) hok' KX' d0 v u q r'
      exact ⟨u, as, rfl, hrd, OldK.of_keep kept, os, bare⟩
/-! ### the row -/
theorem layable_weight {ds : List WData} (h : WData.layableAll ds = true) : ∀ d ∈ ds, d.weight ≤ 1048576 := fun d hd =>
  (PySem.W.layableW_iff.mp (List.all_eq_true.mp h d hd)).2.2
theorem encAll_len : ∀ (cs : List Codec) (a : Codec.denoteAll cs), (Codec.encAll cs a).length = cs.length
  | [], _ => rfl
  | c :: cs, a => by
    show (Codec.encAll cs a.2).length + 1 = cs.length + 1
    rw [encAll_len cs a.2]
/-- the goal that k_headS leaves (case hc), from the promise of the row's def: whatever the arguments that the codecs let and the row asks for, the def gives what stands for enc (f ..) -/
theorem walk_spec {r : OpenSpec} {k : Nat} {q : Program} {loose : List Str} {XP : (Str → Option Value) → Heap → Prop} {YP : World → Heap → Prop} {d : DefRec} {K : Params → PySem.W.Frag} {CX : World → CXT} {ps : List Str} {sp : World → Sp}
    (hwell : r.wellSaid = true) (hdf : d.params.defaults = []) (hlen : r.args.length = ps.length) (hr : Room k callerA)
    (hY : ∀ (w : World) (h : Heap), YP w h → (K w.params).In h)
    (F : ∀ (w : World) (mg : Str → Option Value) (fa : Addr) (h : Heap), YP w h → (K w.params).In h → h.Ns mainGlobals mg → mg d.name = some (.ref fa) →
      ∃ fd : FuncData, (∀ (s : Shared) (us : List Value), us.length = ps.length → BindsTo s fd ⟨us, []⟩ (ps.zip us)) ∧
        ∀ base : Heap, (K w.params).In base → base.Ns mainGlobals mg → FnOk r.prog w (K w.params) mg base (CX w) k fa fd ps (sp w))
    (hsp : ∀ (w : World) (H : Hp) (xs : List V) (a : Codec.denoteAll r.args), OnlyF H → Codec.withinAll r.args a = true → Codec.app r.args r.asked a = true → DwAll (K w.params) H xs (Codec.encAll r.args a) →
      sp w xs H (fun v H' => Dw (K w.params) H' v (r.ret.enc (Codec.app r.args r.f a))) fun _ _ _ => False)
    (hCX : ∀ (w : World) (H : Hp) (s : Shared) (e : Value) (s' : Shared), CX w [] H s (fun _ _ _ => False) e s' → False) :
    PySem.W.WalkOS q loose XP YP r d [] (fun f vs => PySem.call f vs) := by
  intro w s_0 s₁ mg mb G Y fa o pm cd doc dV kV ho hd hcd hD hmg hg args vals as hpre hlay hrd hwl hlo
  obtain ⟨a, e1, e2⟩ := PySem.W.os_pre_some hpre
  obtain ⟨e3, hwi⟩ := Codec.encAll_of_decAll r.args args a e1
  subst e3
  have KX := hY w _ Y
  obtain ⟨fd, hb, hF⟩ := F w mg fa _ Y KX G.T.g hmg
  refine PySem.W.enter_call (codeAny_mono (spec_call (R := []) (cl := classAt s_0.heap) (d0 := r.ret.enc (Codec.app r.args r.f a)) KX G.T.g G.T.b G.T.builtins G.T.nolimit hg hwl (pl_encAll _ _) (layable_weight hlay) hr hF hb (by rw [encAll_len]; exact hlen)
    (fun H xs hO hS => hsp w H xs a hO hwi e2 hS) fun H e s' => hCX w H s₁ e s') fun r' s' hq => ?_)
  obtain ⟨u, as', rfl, h1, h2, h3, h4⟩ := hq
  exact ⟨.inl ⟨u, _, as', rfl, fun _ => rfl, h1, (OpenSpec.post_iff hwell hwi _ _).mpr rfl, fun z => Bool.noConfusion (show false = true from z)⟩, h2, h3, h4⟩
/-- the same where the promise hangs on the written part alone -/
theorem walk_specK {r : OpenSpec} {k : Nat} {q : Program} {loose : List Str} {XP : (Str → Option Value) → Heap → Prop} {YP : World → Heap → Prop} {d : DefRec} {K : Params → PySem.W.Frag} {CX : CXT} {ps : List Str} {sp : PySem.W.Frag → Sp}
    (hwell : r.wellSaid = true) (hdf : d.params.defaults = []) (hlen : r.args.length = ps.length) (hr : Room k callerA)
    (hY : ∀ (w : World) (h : Heap), YP w h → (K w.params).In h)
    (F : ∀ (w : World) (mg : Str → Option Value) (fa : Addr) (h : Heap), YP w h → (K w.params).In h → h.Ns mainGlobals mg → mg d.name = some (.ref fa) →
      ∃ fd : FuncData, (∀ (s : Shared) (us : List Value), us.length = ps.length → BindsTo s fd ⟨us, []⟩ (ps.zip us)) ∧
        ∀ base : Heap, (K w.params).In base → base.Ns mainGlobals mg → FnOk r.prog w (K w.params) mg base CX k fa fd ps (sp (K w.params)))
    (hsp : ∀ (K : PySem.W.Frag) (H : Hp) (xs : List V) (a : Codec.denoteAll r.args), OnlyF H → Codec.withinAll r.args a = true → Codec.app r.args r.asked a = true → DwAll K H xs (Codec.encAll r.args a) →
      sp K xs H (fun v H' => Dw K H' v (r.ret.enc (Codec.app r.args r.f a))) fun _ _ _ => False)
    (hCX : ∀ (H : Hp) (s : Shared) (e : Value) (s' : Shared), CX [] H s (fun _ _ _ => False) e s' → False) :
    PySem.W.WalkOS q loose XP YP r d [] (fun f vs => PySem.call f vs) :=
  walk_spec (K := K) (CX := fun _ => CX) (sp := fun w => sp (K w.params)) hwell hdf hlen hr hY F (fun w H xs a h1 h2 h3 h4 => hsp (K w.params) H xs a h1 h2 h3 h4) fun _ H s e s' => hCX H s e s'
end L2
end
set_option linter.all false
namespace BW
open Kv351
/-! ### sets and their weights -/
theorem has_lt {s n : Nat} (h : s < 2 ^ n) : has s n = false := by
  unfold has
  rw [Nat.div_eq_of_lt h]
  rfl
theorem has_hi {s n : Nat} (h : s < 2 ^ n) : has (2 ^ n + s) n = true := by
  unfold has
  rw [Nat.add_div_left _ (Nat.two_pow_pos n), Nat.div_eq_of_lt h]
  rfl
theorem has_low {s n i : Nat} (h : i < n) : has (2 ^ n + s) i = has s i := by
  unfold has
  obtain ⟨k, rfl⟩ : ∃ k, n = i + 1 + k := ⟨n - (i + 1), by omega⟩
  have e : 2 ^ (i + 1 + k) + s = s + 2 ^ i * (2 * 2 ^ k) := by
    rw [Nat.pow_add, Nat.pow_succ, Nat.mul_assoc]; omega
  rw [e, Nat.add_mul_div_left _ _ (Nat.two_pow_pos i)]
  congr 1
  omega
theorem members_succ (n s : Nat) : members (n + 1) s = members n s ++ (if has s n = true then [n] else []) := by
  unfold members
  rw [List.range_succ, List.filter_append]
  congr 1
  by_cases h : has s n = true
  · simp [h]
  · simp [h]
theorem members_congr {n s t : Nat} (h : ∀ i, i < n → has s i = has t i) : members n s = members n t := by
  unfold members
  apply List.filter_congr
  intro i hi
  exact h i (List.mem_range.mp hi)
theorem mem_members {n s i : Nat} (h : i ∈ members n s) : i < n := by
  unfold members at h
  exact List.mem_range.mp (List.mem_filter.mp h).1
theorem getD_snoc {l : List Nat} {g i : Nat} (h : i < l.length) : (l ++ [g]).getD i 0 = l.getD i 0 := by
  simp [List.getD, List.getElem?_append_left h]
theorem map_members_snoc (l : List Nat) (g s : Nat) : ((members l.length s).map fun i => (l ++ [g]).getD i 0) = (members l.length s).map fun i => l.getD i 0 := by
  apply List.map_congr_left
  intro i hi
  exact getD_snoc (mem_members hi)
theorem getD_last (l : List Nat) (g : Nat) : (l ++ [g]).getD l.length 0 = g := by
  simp [List.getD]
theorem weigh_snoc (l : List Nat) (g s : Nat) : weigh (l ++ [g]) s = weigh l s + (if has s l.length = true then g else 0) := by
  unfold weigh
  rw [List.length_append, List.length_singleton, members_succ, List.map_append, List.sum_append, map_members_snoc]
  congr 1
  by_cases h : has s l.length = true
  · simp [h]
  · simp [h]
theorem weigh_congr {l : List Nat} {s t : Nat} (h : ∀ i, i < l.length → has s i = has t i) : weigh l s = weigh l t := by
  unfold weigh
  rw [members_congr h]
theorem size_snoc (l : List Nat) (g s : Nat) : size (l ++ [g]) s = size l s + (if has s l.length = true then 1 else 0) := by
  unfold size
  rw [List.length_append, List.length_singleton, members_succ, List.length_append]
  congr 1
  by_cases h : has s l.length = true
  · simp [h]
  · simp [h]
/-- what the code reckons: the weight of each set, at the set's number -/
def weighs (l : List Nat) : List Nat := l.foldl (fun ws g => ws ++ ws.map (· + g)) [0]
theorem weighs_snoc (l : List Nat) (g : Nat) : weighs (l ++ [g]) = weighs l ++ (weighs l).map (· + g) := by
  unfold weighs
  rw [List.foldl_append]
  rfl
theorem sets_succ (n : Nat) : sets (n + 1) = sets n ++ (sets n).map (2 ^ n + ·) := by
  unfold sets
  rw [Nat.pow_succ, Nat.mul_two, List.range_add]
theorem snocInd {α : Type} {P : List α → Prop} (h0 : P []) (h1 : ∀ l a, P l → P (l ++ [a])) : ∀ l, P l := by
  intro l
  have : ∀ r : List α, P r.reverse := by
    intro r
    induction r with
    | nil => exact h0
    | cons a r ih => rw [List.reverse_cons]; exact h1 _ _ ih
  have h := this l.reverse
  rwa [List.reverse_reverse] at h
theorem weighs_eq (l : List Nat) : weighs l = (sets l.length).map (weigh l) := by
  induction l using snocInd with
  | h0 => rfl
  | h1 l g ih =>
    rw [weighs_snoc, ih, List.length_append, List.length_singleton, sets_succ, List.map_append, List.map_map, List.map_map]
    congr 1
    · apply List.map_congr_left
      intro s hs
      have hs : s < 2 ^ l.length := List.mem_range.mp hs
      rw [weigh_snoc, has_lt hs]
      simp
    · apply List.map_congr_left
      intro s hs
      have hs : s < 2 ^ l.length := List.mem_range.mp hs
      show weigh l s + g = weigh (l ++ [g]) (2 ^ l.length + s)
      rw [weigh_snoc, has_hi hs]
      simp only [if_true]
      rw [weigh_congr (s := 2 ^ l.length + s) (t := s) fun i hi => has_low hi]
theorem weighs_length (l : List Nat) : (weighs l).length = 2 ^ l.length := by
  rw [weighs_eq, List.length_map]; exact List.length_range
theorem weighs_get {l : List Nat} {s : Nat} (h : s < 2 ^ l.length) : (weighs l)[s]? = some (weigh l s) := by
  rw [weighs_eq, List.getElem?_map]
  unfold sets
  rw [List.getElem?_range h]
  rfl
/-- the sizes are the weights of pieces of one gram each -/
theorem size_eq (l : List Nat) (s : Nat) : size l s = weigh (List.replicate l.length 1) s := by
  induction l using snocInd with
  | h0 => rfl
  | h1 l g ih =>
    rw [size_snoc, List.length_append, List.length_singleton, List.replicate_succ', weigh_snoc, ih, List.length_replicate]
theorem weigh_le_sum (l : List Nat) (s : Nat) : weigh l s ≤ l.sum := by
  induction l using snocInd with
  | h0 => exact Nat.le_refl _
  | h1 l g ih =>
    rw [weigh_snoc, List.sum_append]
    simp only [List.sum_cons, List.sum_nil]
    split <;> omega
theorem has_full {n i : Nat} (h : i < n) : has (2 ^ n - 1) i = true := by
  induction n with
  | zero => omega
  | succ n ih =>
    have e : 2 ^ (n + 1) - 1 = 2 ^ n + (2 ^ n - 1) := by
      have := Nat.two_pow_pos n
      rw [Nat.pow_succ]; omega
    rw [e]
    have hp := Nat.two_pow_pos n
    by_cases hi : i < n
    · rw [has_low hi]; exact ih hi
    · have : i = n := by omega
      subst this
      exact has_hi (by omega)
theorem weigh_full (l : List Nat) : weigh l (2 ^ l.length - 1) = l.sum := by
  have hm : members l.length (2 ^ l.length - 1) = List.range l.length := by
    unfold members
    rw [List.filter_eq_self]
    intro i hi
    exact has_full (List.mem_range.mp hi)
  have he : ((List.range l.length).map fun i => l.getD i 0) = l := by
    apply List.ext_getElem
    · simp
    · intro i h1 h2
      simp [List.getD, h2]
  unfold weigh
  rw [hm, he]
theorem weigh_zero (l : List Nat) : weigh l 0 = 0 := by
  induction l using snocInd with
  | h0 => rfl
  | h1 l g ih =>
    rw [weigh_snoc, ih, has_lt (Nat.two_pow_pos _)]
    rfl
/-! ### the best -/
theorem lighter_iff {l : List Nat} {s t : Nat} : lighter l s t = true ↔ weigh l s < weigh l t ∨ (weigh l s = weigh l t ∧ (size l s < size l t ∨ (size l s = size l t ∧ s < t))) := by
  unfold lighter
  simp only [Bool.or_eq_true, Bool.and_eq_true, decide_eq_true_eq, beq_iff_eq]
def POut (f : Nat → Nat → Bool) (p : Nat → Bool) (xs : List Nat) (b : Option Nat) : Option Nat → Prop
  | none => b = none ∧ ∀ s ∈ xs, p s = false
  | some t => (t ∈ xs ∨ b = some t) ∧ p t = true ∧ (∀ s ∈ xs, p s = true → f s t = false) ∧ ∀ s, b = some s → f s t = false
def pstep (f : Nat → Nat → Bool) (p : Nat → Bool) (b : Option Nat) (s : Nat) : Option Nat := if p s then match b with
  | none => some s
  | some t => if f s t then some s else some t
  else b
theorem pick_aux (f : Nat → Nat → Bool) (p : Nat → Bool) (tr : ∀ a b c, f a b = false → f b c = false → f a c = false) (irr : ∀ a, f a a = false) (asy : ∀ a b, f a b = true → f b a = false) :
    ∀ (xs : List Nat) (b : Option Nat), (∀ t, b = some t → p t = true) → POut f p xs b (xs.foldl (pstep f p) b) := by
  intro xs
  induction xs with
  | nil =>
    intro b hb
    cases b with
    | none => exact ⟨rfl, fun s hs => nomatch hs⟩
    | some t => exact ⟨.inr rfl, hb t rfl, (fun s hs => nomatch hs), (fun s hs => by cases hs; exact irr _)⟩
  | cons x xs ih =>
    intro b hb
    rw [List.foldl_cons]
    have hb' : ∀ t, pstep f p b x = some t → p t = true := by
      intro t ht
      unfold pstep at ht
      by_cases hx : p x = true
      · rw [if_pos hx] at ht
        cases b with
        | none => cases ht; exact hx
        | some b0 =>
          by_cases hf : f x b0 = true
          · simp only [hf, if_true] at ht; cases ht; exact hx
          · simp only [hf, if_false] at ht; cases ht; exact hb _ rfl
      · rw [if_neg hx] at ht; exact hb t ht
    have h := ih (pstep f p b x) hb'
    generalize hr : xs.foldl (pstep f p) (pstep f p b x) = r at h
    cases r with
    | none =>
      obtain ⟨h1, h2⟩ := h
      unfold pstep at h1
      by_cases hx : p x = true
      · rw [if_pos hx] at h1
        cases b with
        | none => cases h1
        | some b0 =>
          by_cases hf : f x b0 = true
          · simp only [hf, if_true] at h1; cases h1
          · simp only [hf, if_false] at h1; cases h1
      · rw [if_neg hx] at h1
        refine ⟨h1, fun s hs => ?_⟩
        rcases List.mem_cons.mp hs with rfl | hs
        · simpa using hx
        · exact h2 s hs
    | some t =>
      obtain ⟨h1, h2, h3, h4⟩ := h
      unfold pstep at h1 h4
      by_cases hx : p x = true
      · rw [if_pos hx] at h1 h4
        cases b with
        | none =>
          refine ⟨.inl ?_, h2, fun s hs ps => ?_, (fun s hs => nomatch hs)⟩
          · rcases h1 with h1 | h1
            · exact List.mem_cons_of_mem _ h1
            · cases h1; exact List.mem_cons_self
          · rcases List.mem_cons.mp hs with rfl | hs
            · exact h4 _ rfl
            · exact h3 s hs ps
        | some b0 =>
          by_cases hf : f x b0 = true
          · simp only [hf, if_true] at h1 h4
            have hxt := h4 x rfl
            refine ⟨.inl ?_, h2, fun s hs ps => ?_, fun s hs => ?_⟩
            · rcases h1 with h1 | h1
              · exact List.mem_cons_of_mem _ h1
              · cases h1; exact List.mem_cons_self
            · rcases List.mem_cons.mp hs with rfl | hs
              · exact hxt
              · exact h3 s hs ps
            · cases hs
              exact tr _ _ _ (asy _ _ hf) hxt
          · simp only [hf, if_false] at h1 h4
            have hf : f x b0 = false := by simpa using hf
            have hbt := h4 b0 rfl
            refine ⟨?_, h2, fun s hs ps => ?_, fun s hs => ?_⟩
            · rcases h1 with h1 | h1
              · exact .inl (List.mem_cons_of_mem _ h1)
              · exact .inr h1
            · rcases List.mem_cons.mp hs with rfl | hs
              · exact tr _ _ _ hf hbt
              · exact h3 s hs ps
            · cases hs; exact hbt
      · rw [if_neg hx] at h1 h4
        refine ⟨?_, h2, fun s hs ps => ?_, h4⟩
        · rcases h1 with h1 | h1
          · exact .inl (List.mem_cons_of_mem _ h1)
          · exact .inr h1
        · rcases List.mem_cons.mp hs with rfl | hs
          · exact absurd ps hx
          · exact h3 s hs ps
theorem lighter_false {l : List Nat} {s t : Nat} : lighter l s t = false ↔ weigh l t < weigh l s ∨ (weigh l t = weigh l s ∧ (size l t < size l s ∨ (size l t = size l s ∧ t ≤ s))) := by
  constructor
  · intro h
    have h' : ¬ lighter l s t = true := by rw [h]; simp
    rw [lighter_iff] at h'
    omega
  · intro h
    apply Bool.eq_false_iff.mpr
    intro h'
    rw [lighter_iff] at h'
    omega
def BOut (l : List Nat) (w : Nat) : Option Nat → Prop
  | none => ∀ s, s < 2 ^ l.length → weigh l s < w
  | some t => t < 2 ^ l.length ∧ w ≤ weigh l t ∧ ∀ s, s < 2 ^ l.length → w ≤ weigh l s → lighter l s t = false
theorem best_spec (l : List Nat) (w : Nat) : BOut l w (best l w) := by
  have h : POut (lighter l) (fun s => decide (w ≤ weigh l s)) (sets l.length) none (best l w) := pick_aux (lighter l) (fun s => decide (w ≤ weigh l s)) (fun a b c h1 h2 => by
      rw [lighter_false] at h1 h2 ⊢; omega) (fun a => by rw [lighter_false]; omega) (fun a b h => by
      rw [lighter_iff] at h; rw [lighter_false]; omega) (sets l.length) none (fun t e => by cases e)
  generalize best l w = r at h
  cases r with
  | none =>
    obtain ⟨_, h⟩ := h
    intro s hs
    have := h s (List.mem_range.mpr hs)
    simp only [decide_eq_false_iff_not] at this
    omega
  | some t =>
    obtain ⟨h1, h2, h3, _⟩ := h
    refine ⟨?_, by simpa using h2, fun s hs hw => h3 s (List.mem_range.mpr hs) (by simpa using hw)⟩
    rcases h1 with h1 | h1
    · exact List.mem_range.mp h1
    · cases h1
theorem best_none {l : List Nat} {w : Nat} (h : l.sum < w) : best l w = none := by
  have hb := best_spec l w
  cases e : best l w with
  | none => rfl
  | some t =>
    rw [e] at hb
    have := weigh_le_sum l t
    have := hb.2.1
    omega
theorem best_is {l : List Nat} {w t : Nat} (ht : t < 2 ^ l.length) (hw : w ≤ weigh l t) (hm : ∀ s, s < 2 ^ l.length → w ≤ weigh l s → lighter l s t = false) : best l w = some t := by
  have hb := best_spec l w
  cases e : best l w with
  | none =>
    rw [e] at hb
    have := hb t ht
    omega
  | some u =>
    rw [e] at hb
    obtain ⟨h1, h2, h3⟩ := hb
    have a := h3 t ht hw
    have b := hm u h1 h2
    rw [lighter_false] at a b
    have : u = t := by omega
    rw [this]
theorem best_some {l : List Nat} {w : Nat} (h : w ≤ l.sum) : ∃ t, best l w = some t ∧ t < 2 ^ l.length ∧ w ≤ weigh l t := by
  have hb := best_spec l w
  cases e : best l w with
  | none =>
    rw [e] at hb
    have h1 := hb (2 ^ l.length - 1) (by have := Nat.two_pow_pos l.length; omega)
    rw [weigh_full] at h1
    omega
  | some t =>
    rw [e] at hb
    exact ⟨t, rfl, hb.1, hb.2.1⟩
end BW
set_option linter.all false
namespace BW
open Kv351
/-! ### by weight -/
def asc (l : List Nat) : List Nat := (light l).map fun i => l.getD i 0
def desc (l : List Nat) : List Nat := (heavy l).map fun i => l.getD i 0
theorem map_range (l : List Nat) : ((List.range l.length).map fun i => l.getD i 0) = l := by
  apply List.ext_getElem
  · simp
  · intro i h1 h2
    simp [List.getD, h2]
theorem asc_perm (l : List Nat) : (asc l).Perm l := by
  have h := (List.mergeSort_perm (List.range l.length) (fun i j => decide (l.getD i 0 < l.getD j 0) || (l.getD i 0 == l.getD j 0 && decide (i ≤ j)))).map fun i => l.getD i 0
  rw [map_range] at h
  exact h
theorem desc_perm (l : List Nat) : (desc l).Perm l := by
  have h := (List.mergeSort_perm (List.range l.length) (fun i j => decide (l.getD j 0 < l.getD i 0) || (l.getD i 0 == l.getD j 0 && decide (i ≤ j)))).map fun i => l.getD i 0
  rw [map_range] at h
  exact h
theorem light_sorted (l : List Nat) : (light l).Pairwise fun i j => l.getD i 0 < l.getD j 0 ∨ (l.getD i 0 = l.getD j 0 ∧ i ≤ j) := by
  have h := List.pairwise_mergeSort (le := fun i j => decide (l.getD i 0 < l.getD j 0) || (l.getD i 0 == l.getD j 0 && decide (i ≤ j)))
    (fun a b c h1 h2 => by simp only [Bool.or_eq_true, Bool.and_eq_true, decide_eq_true_eq, beq_iff_eq] at *; omega)
    (fun a b => by simp only [Bool.or_eq_true, Bool.and_eq_true, decide_eq_true_eq, beq_iff_eq] at *; omega) (List.range l.length)
  refine List.Pairwise.imp (fun {a b} q => ?_) h
  simp only [Bool.or_eq_true, Bool.and_eq_true, decide_eq_true_eq, beq_iff_eq] at q
  exact q
theorem heavy_sorted (l : List Nat) : (heavy l).Pairwise fun i j => l.getD j 0 < l.getD i 0 ∨ (l.getD i 0 = l.getD j 0 ∧ i ≤ j) := by
  have h := List.pairwise_mergeSort (le := fun i j => decide (l.getD j 0 < l.getD i 0) || (l.getD i 0 == l.getD j 0 && decide (i ≤ j)))
    (fun a b c h1 h2 => by simp only [Bool.or_eq_true, Bool.and_eq_true, decide_eq_true_eq, beq_iff_eq] at *; omega)
    (fun a b => by simp only [Bool.or_eq_true, Bool.and_eq_true, decide_eq_true_eq, beq_iff_eq] at *; omega) (List.range l.length)
  refine List.Pairwise.imp (fun {a b} q => ?_) h
  simp only [Bool.or_eq_true, Bool.and_eq_true, decide_eq_true_eq, beq_iff_eq] at q
  exact q
theorem asc_sorted (l : List Nat) : (asc l).Pairwise (· ≤ ·) := by
  unfold asc
  rw [List.pairwise_map]
  exact List.Pairwise.imp (fun {a b} q => by omega) (light_sorted l)
theorem desc_sorted (l : List Nat) : (desc l).Pairwise (fun a b => b ≤ a) := by
  unfold desc
  rw [List.pairwise_map]
  exact List.Pairwise.imp (fun {a b} q => by omega) (heavy_sorted l)
theorem asc_unique {l m : List Nat} (hp : m.Perm l) (hs : m.Pairwise (· ≤ ·)) : m = asc l :=
  List.Perm.eq_of_pairwise (fun a b _ _ h1 h2 => Nat.le_antisymm h1 h2) hs (asc_sorted l) (hp.trans (asc_perm l).symm)
theorem desc_unique {l m : List Nat} (hp : m.Perm l) (hs : m.Pairwise (fun a b => b ≤ a)) : m = desc l :=
  List.Perm.eq_of_pairwise (fun a b _ _ h1 h2 => Nat.le_antisymm h2 h1) hs (desc_sorted l) (hp.trans (desc_perm l).symm)
/-- a sorted list of whole numbers is the sorted pieces -/
theorem asc_ints {l : List Nat} {ns : List Int} (hp : ns.Perm (l.map Int.ofNat)) (hs : ns.Pairwise (· ≤ ·)) : ns = (asc l).map Int.ofNat :=
  List.Perm.eq_of_pairwise (fun a b _ _ h1 h2 => Int.le_antisymm h1 h2) hs (by
    rw [List.pairwise_map]
    exact List.Pairwise.imp (fun {a b} q => Int.ofNat_le.mpr q) (asc_sorted l)) (hp.trans ((asc_perm l).symm.map _))
theorem desc_ints {l : List Nat} {ns : List Int} (hp : ns.Perm (l.map Int.ofNat)) (hs : ns.Pairwise (fun a b => b ≤ a)) : ns = (desc l).map Int.ofNat :=
  List.Perm.eq_of_pairwise (fun a b _ _ h1 h2 => Int.le_antisymm h2 h1) hs (by
    rw [List.pairwise_map]
    exact List.Pairwise.imp (fun {a b} q => Int.ofNat_le.mpr q) (desc_sorted l)) (hp.trans ((desc_perm l).symm.map _))
theorem asc_length (l : List Nat) : (asc l).length = l.length := (asc_perm l).length_eq
theorem desc_length (l : List Nat) : (desc l).length = l.length := (desc_perm l).length_eq
theorem total_light (l : List Nat) (k : Nat) : total l ((light l).take k) = ((asc l).take k).sum := by
  unfold total asc; rw [List.map_take]
theorem total_heavy (l : List Nat) (k : Nat) : total l ((heavy l).take k) = ((desc l).take k).sum := by
  unfold total desc; rw [List.map_take]
theorem find_range {n k : Nat} {p : Nat → Bool} (hk : k < n) (h1 : p k = true) (h2 : ∀ j, j < k → p j = false) : (List.range n).find? p = some k := by
  obtain ⟨d, rfl⟩ : ∃ d, n = k + (1 + d) := ⟨n - k - 1, by omega⟩
  rw [List.range_add, List.find?_append]
  have e : (List.range k).find? p = none := by
    rw [List.find?_eq_none]
    intro x hx
    rw [h2 x (List.mem_range.mp hx)]; simp
  rw [e, List.range_add]
  simp [h1]
theorem find_range_none {n : Nat} {p : Nat → Bool} (h : ∀ j, j < n → p j = false) : (List.range n).find? p = none := by
  rw [List.find?_eq_none]
  intro x hx
  rw [h x (List.mem_range.mp hx)]; simp
theorem take_sum_mono (l : List Nat) {j k : Nat} (h : j ≤ k) : (l.take j).sum ≤ (l.take k).sum := by
  obtain ⟨d, rfl⟩ : ∃ d, k = j + d := ⟨k - j, by omega⟩
  rw [List.take_add, List.sum_append]
  omega
theorem take_sum_all {l m : List Nat} (h : m.Perm l) : (m.take l.length).sum = l.sum := by
  rw [← h.length_eq, List.take_length]
  exact h.sum_nat
/-- the fewest: the first prefix of the heaviest that weighs enough -/
theorem fewest_is {l : List Nat} {w k : Nat} (hk : k ≤ l.length) (h1 : w ≤ ((desc l).take k).sum) (h2 : ∀ j, j < k → ((desc l).take j).sum < w) : fewest l w = some k := by
  unfold fewest
  refine find_range (by omega) ?_ fun j hj => ?_
  · rw [total_heavy]; simpa using h1
  · rw [total_heavy]
    have := h2 j hj
    simp only [decide_eq_false_iff_not]; omega
theorem fewest_none {l : List Nat} {w : Nat} (h : l.sum < w) : fewest l w = none := by
  unfold fewest
  refine find_range_none fun j hj => ?_
  rw [total_heavy]
  have h1 := take_sum_mono (desc l) (j := j) (k := l.length) (by omega)
  rw [take_sum_all (desc_perm l)] at h1
  simp only [decide_eq_false_iff_not]; omega
theorem filter_range {n k : Nat} {p : Nat → Bool} (hk : k ≤ n) (h1 : ∀ j, j < k → p j = true) (h2 : ∀ j, k ≤ j → j < n → p j = false) : (List.range n).filter p = List.range k := by
  obtain ⟨d, rfl⟩ : ∃ d, n = k + d := ⟨n - k, by omega⟩
  rw [List.range_add, List.filter_append]
  have e1 : (List.range k).filter p = List.range k := List.filter_eq_self.mpr fun x hx => h1 x (List.mem_range.mp hx)
  have e2 : (List.map (fun x => k + x) (List.range d)).filter p = [] := by
    rw [List.filter_eq_nil_iff]
    intro x hx
    obtain ⟨y, hy, rfl⟩ := List.mem_map.mp hx
    rw [h2 (k + y) (by omega) (by have := List.mem_range.mp hy; omega)]; simp
  rw [e1, e2, List.append_nil]
theorem most_is {l : List Nat} {w k : Nat} (hk : k ≤ l.length) (h1 : ((asc l).take k).sum ≤ w) (h2 : k < l.length → w < ((asc l).take (k + 1)).sum) : most l w = k := by
  unfold most
  rw [filter_range (k := k + 1) (by omega) (fun j hj => ?_) (fun j hj hn => ?_)]
  · rw [List.range_succ]
    simp [List.getLastD_eq_getLast?]
  · rw [total_light]
    have := take_sum_mono (asc l) (j := j) (k := k) (by omega)
    simp only [decide_eq_true_eq]; omega
  · rw [total_light]
    have := take_sum_mono (asc l) hj
    have := h2 (by omega)
    simp only [decide_eq_false_iff_not]; omega
theorem ways_eq (l : List Nat) (w : Nat) : ways l w = (weighs l).count w := by
  unfold ways
  rw [weighs_eq, List.count_eq_countP, List.countP_map, List.countP_eq_length_filter]
  congr 1
theorem foldl_max_ge (l : List Nat) : ∀ a, a ≤ l.foldl max a ∧ ∀ x ∈ l, x ≤ l.foldl max a := by
  induction l with
  | nil => intro a; exact ⟨Nat.le_refl _, fun x hx => nomatch hx⟩
  | cons y l ih =>
    intro a
    rw [List.foldl_cons]
    obtain ⟨h1, h2⟩ := ih (max a y)
    refine ⟨by omega, fun x hx => ?_⟩
    rcases List.mem_cons.mp hx with rfl | hx
    · omega
    · exact h2 x hx
theorem foldl_max_mem (l : List Nat) : ∀ a, l.foldl max a = a ∨ l.foldl max a ∈ l := by
  induction l with
  | nil => intro a; exact .inl rfl
  | cons y l ih =>
    intro a
    rw [List.foldl_cons]
    rcases ih (max a y) with h | h
    · rw [h]
      by_cases hy : y ≤ a
      · left; omega
      · right; rw [Nat.max_eq_right (by omega)]; exact List.mem_cons_self
    · exact .inr (List.mem_cons_of_mem _ h)
/-- the heaviest of those that weigh no more -/
theorem under_is {l : List Nat} {w m : Nat} (h1 : m ∈ weighs l) (h2 : m ≤ w) (h3 : ∀ y ∈ weighs l, y ≤ w → y ≤ m) : under l w = m := by
  unfold under
  obtain ⟨g1, g2⟩ := foldl_max_ge ((sets l.length).map fun s => if weigh l s ≤ w then weigh l s else 0) 0
  have hmem := foldl_max_mem ((sets l.length).map fun s => if weigh l s ≤ w then weigh l s else 0) 0
  rw [weighs_eq] at h1 h3
  apply Nat.le_antisymm
  · rcases hmem with h | h
    · omega
    · obtain ⟨s, hs, e⟩ := List.mem_map.mp h
      rw [← e]
      split
      · rename_i hw
        exact h3 _ (List.mem_map.mpr ⟨s, hs, rfl⟩) hw
      · omega
  · obtain ⟨s, hs, e⟩ := List.mem_map.mp h1
    refine g2 m (List.mem_map.mpr ⟨s, hs, ?_⟩)
    rw [if_pos (by omega)]; exact e
/-! ### parted by a set -/
theorem has_div (s i : Nat) : (s / 2 ^ i % 2 = 1) ↔ has s i = true := by unfold has; simp
def ins (l : List Nat) (s k : Nat) : List Nat := (members k s).map fun i => l.getD i 0
def outs (l : List Nat) (s k : Nat) : List Nat := ((List.range k).filter fun i => !(has s i)).map fun i => l.getD i 0
theorem ins_all (l : List Nat) (s : Nat) : ins l s l.length = chosen l s := rfl
theorem outs_all (l : List Nat) (s : Nat) : outs l s l.length = without l s := rfl
theorem ins_succ (l : List Nat) (s k : Nat) : ins l s (k + 1) = if has s k = true then ins l s k ++ [l.getD k 0] else ins l s k := by
  unfold ins
  rw [members_succ, List.map_append]
  split <;> simp
theorem outs_succ (l : List Nat) (s k : Nat) : outs l s (k + 1) = if has s k = true then outs l s k else outs l s k ++ [l.getD k 0] := by
  unfold outs
  rw [List.range_succ, List.filter_append, List.map_append]
  by_cases h : has s k = true
  · simp [h]
  · simp [h]
theorem ins_length_le (l : List Nat) (s k : Nat) : (ins l s k).length ≤ k := by
  unfold ins members
  rw [List.length_map]
  have := List.length_filter_le (fun i => has s i) (List.range k)
  rwa [List.length_range] at this
theorem outs_length_le (l : List Nat) (s k : Nat) : (outs l s k).length ≤ k := by
  unfold outs
  rw [List.length_map]
  have := List.length_filter_le (fun i => !has s i) (List.range k)
  rwa [List.length_range] at this
theorem parts_length (l : List Nat) (s k : Nat) : (ins l s k).length + (outs l s k).length = k := by
  induction k with
  | zero => rfl
  | succ k ih =>
    rw [ins_succ, outs_succ]
    split <;> simp only [List.length_append, List.length_singleton] <;> omega
theorem chosen_sum (l : List Nat) (s : Nat) : (chosen l s).sum = weigh l s := rfl
theorem chosen_ne {l : List Nat} {s : Nat} (h : 0 < weigh l s) : chosen l s ≠ [] := by
  intro e
  rw [← chosen_sum, e] at h
  simp at h
theorem need_is {w t g k : Nat} (hk : k ≤ 1000) (h1 : w ≤ t + k * g) (h2 : ∀ j, j < k → t + j * g < w) : ((List.range 1001).find? fun k => decide (w ≤ t + k * g)) = some k :=
  find_range (by omega) (by simpa using h1) fun j hj => by have := h2 j hj; simp only [decide_eq_false_iff_not]; omega
theorem need_none {w t g : Nat} (h : t + 1000 * g < w) : ((List.range 1001).find? fun k => decide (w ≤ t + k * g)) = none :=
  find_range_none fun j hj => by
    have : j * g ≤ 1000 * g := Nat.mul_le_mul_right g (by omega)
    simp only [decide_eq_false_iff_not]; omega
/-- the heaviest: the first of the greatest -/
theorem heaviest_is {l : List Nat} {i : Nat} (hi : i < l.length) (h1 : ∀ j, j < l.length → l.getD j 0 ≤ l.getD i 0) (h2 : ∀ j, j < i → l.getD j 0 < l.getD i 0) : ∃ r, heavy l = i :: r := by
  have hp : (heavy l).Perm (List.range l.length) := List.mergeSort_perm _ _
  have hs := heavy_sorted l
  cases e : heavy l with
  | nil =>
    have := hp.length_eq
    rw [e, List.length_range] at this
    simp at this; omega
  | cons a r =>
    refine ⟨r, ?_⟩
    rw [e] at hs hp
    have ha : a < l.length := List.mem_range.mp (hp.mem_iff.mp List.mem_cons_self)
    have hmem : i ∈ a :: r := hp.mem_iff.mpr (List.mem_range.mpr hi)
    have := h1 a ha
    rcases List.mem_cons.mp hmem with rfl | hr
    · rfl
    · have q := List.rel_of_pairwise_cons hs hr
      have : ¬ a < i := fun h => by have := h2 a h; omega
      have e2 : i = a := by omega
      rw [e2]
theorem heavy_nil : heavy [] = [] := by simp [heavy]
theorem middle_is (l : List Nat) (k : Nat) (hk : k < l.length) : l.getD ((light l).getD k 0) 0 = (asc l).getD k 0 := by
  have hl : (light l).length = l.length := by
    have := (List.mergeSort_perm (List.range l.length) (fun i j => decide (l.getD i 0 < l.getD j 0) || (l.getD i 0 == l.getD j 0 && decide (i ≤ j)))).length_eq
    rw [List.length_range] at this
    exact this
  unfold asc
  have hk' : k < (light l).length := by omega
  have e : (light l)[k]? = some (light l)[k] := List.getElem?_eq_getElem hk'
  simp only [List.getD, List.getElem?_map, e, Option.getD_some, Option.map_some]
end BW
set_option linter.all false
namespace BW
open Kv351
/-! ### one basket after another -/
theorem best_ne_zero {l : List Nat} {w s : Nat} (hw : 1 ≤ w) (h : best l w = some s) : s ≠ 0 ∧ s < 2 ^ l.length ∧ w ≤ weigh l s := by
  have hb := best_spec l w
  rw [h] at hb
  refine ⟨fun e => ?_, hb.1, hb.2.1⟩
  subst e
  have := hb.2.1
  rw [weigh_zero] at this
  omega
theorem without_lt {l : List Nat} {s : Nat} (h : 0 < weigh l s) : (without l s).length < l.length := by
  have h1 := parts_length l s l.length
  rw [ins_all, outs_all] at h1
  have h2 : (chosen l s).length ≠ 0 := fun e => chosen_ne h (List.length_eq_zero_iff.mp e)
  omega
theorem row_none {w n : Nat} {l : List Nat} (h : l.sum < w) : row w n l = [] := by
  cases n with
  | zero => rfl
  | succ n =>
    show (match best l w with
      | none => []
      | some s => if s = 0 then [] else weigh l s :: row w n (without l s)) = []
    rw [best_none h]
theorem row_some {w n s : Nat} {l : List Nat} (hw : 1 ≤ w) (h : best l w = some s) (hn : l.length ≤ n) : ∃ m, n = m + 1 ∧ row w n l = weigh l s :: row w m (without l s) ∧ (without l s).length ≤ m := by
  obtain ⟨h0, h1, h2⟩ := best_ne_zero hw h
  have hlt := without_lt (l := l) (s := s) (by omega)
  cases n with
  | zero => omega
  | succ m =>
    refine ⟨m, rfl, ?_, by omega⟩
    show (match best l w with
      | none => []
      | some s => if s = 0 then [] else weigh l s :: row w m (without l s)) = _
    rw [h]
    show (if s = 0 then [] else weigh l s :: row w m (without l s)) = _
    rw [if_neg h0]
/-! ### what holds between two calls -/
structure Ok (a : Abs) : Prop where
  few : a.pieces.length ≤ 9
  bfew : ∀ b ∈ a.baskets, b.length ≤ 9
  came : a.came = a.pieces.length + (a.baskets.map List.length).sum
  w1 : 1 ≤ a.want
theorem ok_begun {w : Nat} (h : 1 ≤ w) : Ok (begun w) := ⟨by simp [begun], (fun b hb => nomatch hb), rfl, h⟩
theorem ok_packs {a : Abs} (h : Ok a) (s : Nat) : Ok (a.packs s) := by
  have h1 := parts_length a.pieces s a.pieces.length
  rw [ins_all, outs_all] at h1
  have hf := h.few
  refine ⟨?_, fun b hb => ?_, ?_, h.w1⟩
  · show (without a.pieces s).length ≤ 9
    omega
  · rcases List.mem_append.mp hb with hb | hb
    · exact h.bfew b hb
    · rw [List.mem_singleton.mp hb]; omega
  · show a.came = (without a.pieces s).length + ((a.baskets ++ [chosen a.pieces s]).map List.length).sum
    rw [h.came, List.map_append, List.sum_append]
    simp only [List.map_cons, List.map_nil, List.sum_cons, List.sum_nil]
    omega
theorem getLast_split {α : Type} {l : List α} {b : α} (h : l.getLast? = some b) : l = l.dropLast ++ [b] := by
  have hne : l ≠ [] := by
    intro e
    rw [e] at h
    cases h
  rw [List.getLast?_eq_some_getLast hne] at h
  have e : l.getLast hne = b := Option.some.inj h
  rw [← e, List.dropLast_concat_getLast hne]
theorem ok_does {a : Abs} (h : Ok a) (c : Call) : Ok (a.does c).1 ∧ (a.does c).1.baskets.length ≤ a.baskets.length + 1 := by
  have same : Ok a ∧ a.baskets.length ≤ a.baskets.length + 1 := ⟨h, by omega⟩
  have hf := h.few
  have hc := h.came
  cases c with
  | begin_ w =>
    simp only [Abs.does]
    split
    · exact same
    · rename_i hw
      exact ⟨ok_begun (by omega), by simp [begun]⟩
  | piece g =>
    simp only [Abs.does]
    split
    · exact same
    · split
      · exact same
      · rename_i h1 h2
        refine ⟨⟨?_, h.bfew, ?_, h.w1⟩, by simp⟩
        · show (a.pieces ++ [g]).length ≤ 9
          have : ¬ 9 ≤ a.n := fun e => h2 (.inl e)
          unfold Abs.n at this
          rw [List.length_append, List.length_singleton]; omega
        · show a.came + 1 = (a.pieces ++ [g]).length + (a.baskets.map List.length).sum
          rw [List.length_append, List.length_singleton]; omega
  | take i =>
    simp only [Abs.does]
    split
    · exact same
    · rename_i h1
      unfold Abs.n at h1
      have e : (a.pieces.take i ++ a.pieces.drop (i + 1)).length = a.pieces.length - 1 := by
        rw [List.length_append, List.length_take, List.length_drop]; omega
      refine ⟨⟨?_, h.bfew, ?_, h.w1⟩, by simp⟩
      · show (a.pieces.take i ++ a.pieces.drop (i + 1)).length ≤ 9
        rw [e]; omega
      · show a.came - 1 = (a.pieces.take i ++ a.pieces.drop (i + 1)).length + (a.baskets.map List.length).sum
        rw [e]
        omega
  | want w =>
    simp only [Abs.does]
    split
    · exact same
    · rename_i hw
      exact ⟨⟨h.few, h.bfew, h.came, by show 1 ≤ w; omega⟩, by simp⟩
  | pack =>
    simp only [Abs.does]
    split
    · exact same
    · exact ⟨ok_packs h _, by simp [Abs.packs]⟩
  | packSet s =>
    simp only [Abs.does]
    split
    · exact same
    · split
      · exact same
      · exact ⟨ok_packs h _, by simp [Abs.packs]⟩
  | unpack =>
    simp only [Abs.does]
    split
    · exact same
    · rename_i b hb
      have e := getLast_split hb
      split
      · exact same
      · rename_i h9
        unfold Abs.n at h9
        refine ⟨⟨?_, fun x hx => ?_, ?_, h.w1⟩, by show a.baskets.dropLast.length ≤ _; rw [List.length_dropLast]; omega⟩
        · show (a.pieces ++ b).length ≤ 9
          rw [List.length_append]; omega
        · exact h.bfew x ((List.dropLast_sublist _).mem hx)
        · show a.came = (a.pieces ++ b).length + (a.baskets.dropLast.map List.length).sum
          rw [e, List.map_append, List.sum_append] at hc
          simp only [List.map_cons, List.map_nil, List.sum_cons, List.sum_nil] at hc
          rw [List.length_append]; omega
  | best w => simp only [Abs.does]; split <;> first | exact same | (split <;> exact same)
  | fewest w => simp only [Abs.does]; split <;> first | exact same | (split <;> exact same)
  | most w => simp only [Abs.does]; split <;> exact same
  | ways w => simp only [Abs.does]; split <;> exact same
  | under w => simp only [Abs.does]; split <;> exact same
  | half => exact same
  | row => exact same
  | weigh s => simp only [Abs.does]; split <;> exact same
  | could w => simp only [Abs.does]; split <;> exact same
  | need g =>
    simp only [Abs.does]
    generalize (List.range 1001).find? _ = r
    split
    · exact same
    · cases r <;> exact same
  | heaviest => simp only [Abs.does]; split <;> exact same
  | between x y => simp only [Abs.does]; split <;> exact same
  | middle => simp only [Abs.does]; split <;> exact same
  | basket b => simp only [Abs.does]; split <;> exact same
  | sums => exact same
  | state => exact same
def OkS (st : State) : Prop := ∀ a, st = some a → Ok a
def nB (st : State) : Nat := match st with
  | none => 0
  | some a => a.baskets.length
theorem ok_act {st : State} (h : OkS st) (c : Call) : OkS (act st c).1 ∧ nB (act st c).1 ≤ nB st + 1 := by
  cases st with
  | some a =>
    obtain ⟨h1, h2⟩ := ok_does (h a rfl) c
    exact ⟨fun b e => by cases e; exact h1, h2⟩
  | none =>
    cases c with
    | begin_ w =>
      simp only [act]
      split
      · exact ⟨(fun a e => nomatch e), Nat.le_succ _⟩
      · rename_i hn
        simp only [Abs.does] at hn ⊢
        split
        · rename_i hw
          rw [if_pos hw] at hn
          exact absurd (show (say (-22)).ret < 0 by decide) hn
        · rename_i hw
          exact ⟨fun b e => by cases e; exact ok_begun (by omega), Nat.zero_le _⟩
    | _ => exact ⟨(fun a e => nomatch e), Nat.le_succ _⟩
/-! ### the list handed in, call by call -/
def counts : List Nat := [1, 1, 1, 1, 0, 1, 0, 1, 1, 1, 1, 1, 0, 0, 1, 1, 1, 0, 2, 0, 1, 0, 0]
def callAt (q : Nat) (xs : List Int) : Call := match q with
  | 0 => .begin_ (xs.getD 0 0).toNat
  | 1 => .piece (xs.getD 0 0).toNat
  | 2 => .take (xs.getD 0 0).toNat
  | 3 => .want (xs.getD 0 0).toNat
  | 4 => .pack
  | 5 => .packSet (xs.getD 0 0).toNat
  | 6 => .unpack
  | 7 => .best (xs.getD 0 0).toNat
  | 8 => .fewest (xs.getD 0 0).toNat
  | 9 => .most (xs.getD 0 0).toNat
  | 10 => .ways (xs.getD 0 0).toNat
  | 11 => .under (xs.getD 0 0).toNat
  | 12 => .half
  | 13 => .row
  | 14 => .weigh (xs.getD 0 0).toNat
  | 15 => .could (xs.getD 0 0).toNat
  | 16 => .need (xs.getD 0 0).toNat
  | 17 => .heaviest
  | 18 => .between (xs.getD 0 0).toNat (xs.getD 1 0).toNat
  | 19 => .middle
  | 20 => .basket (xs.getD 0 0).toNat
  | 21 => .sums
  | _ => .state
theorem upto {q : Nat} (hq : q < 23) : q = 0 ∨ q = 1 ∨ q = 2 ∨ q = 3 ∨ q = 4 ∨ q = 5 ∨ q = 6 ∨ q = 7 ∨ q = 8 ∨ q = 9 ∨ q = 10 ∨ q = 11 ∨ q = 12 ∨ q = 13 ∨ q = 14 ∨ q = 15 ∨ q = 16 ∨ q = 17 ∨ q = 18 ∨ q = 19 ∨ q = 20 ∨ q = 21 ∨ q = 22 := by
  have h : ∀ q : Nat, q < 23 → (q = 0 ∨ q = 1 ∨ q = 2 ∨ q = 3 ∨ q = 4 ∨ q = 5 ∨ q = 6 ∨ q = 7 ∨ q = 8 ∨ q = 9 ∨ q = 10 ∨ q = 11 ∨ q = 12 ∨ q = 13 ∨ q = 14 ∨ q = 15 ∨ q = 16 ∨ q = 17 ∨ q = 18 ∨ q = 19 ∨ q = 20 ∨ q = 21 ∨ q = 22) := by decide
  exact h q hq
theorem shape_none {p : Int} (h : p < 0 ∨ 23 ≤ p) : PyKv351.shape p = none := by
  unfold PyKv351.shape
  repeat rw [if_neg (by omega)]
theorem shape_cases {p : Int} {n k : Nat} (h : PyKv351.shape p = some (n, k)) : k = 0 ∧ ∃ q : Nat, q < 23 ∧ p = (q : Int) ∧ counts[q]? = some n := by
  by_cases hp : p < 0 ∨ 23 ≤ p
  · rw [shape_none hp] at h; cases h
  · obtain ⟨q, rfl⟩ : ∃ q : Nat, p = (q : Int) := ⟨p.toNat, by omega⟩
    have hq : q < 23 := by omega
    have e : PyKv351.shape (q : Int) = (counts[q]?).map fun n => (n, 0) := by
      rcases upto hq with h | h | h | h | h | h | h | h | h | h | h | h | h | h | h | h | h | h | h | h | h | h | h <;> subst h <;> rfl
    rw [e] at h
    cases hc : counts[q]? with
    | none => rw [hc] at h; cases h
    | some m => rw [hc] at h; cases h; exact ⟨rfl, q, hq, rfl, hc⟩
theorem calls_nil {f : Nat} {raw : List (List (List Int))} (h : PyFlat.calls PyKv351.shape f [] = some raw) : raw = [] := by
  cases f <;> (simp only [PyFlat.calls] at h; cases h; rfl)
theorem calls_cons {f : Nat} {p : Int} {r : List Int} {raw : List (List (List Int))} (h : PyFlat.calls PyKv351.shape f (p :: r) = some raw) :
    ∃ (f' q n : Nat) (raw' : List (List (List Int))), q < 23 ∧ p = (q : Int) ∧ counts[q]? = some n ∧ n ≤ r.length ∧ raw = [p :: r.take n] :: raw' ∧ PyFlat.calls PyKv351.shape f' (r.drop n) = some raw' := by
  cases f with
  | zero => simp only [PyFlat.calls] at h; cases h
  | succ f =>
    simp only [PyFlat.calls, PyFlat.call] at h
    cases hs : PyKv351.shape p with
    | none => rw [hs] at h; cases h
    | some nk =>
      obtain ⟨n, k⟩ := nk
      obtain ⟨rfl, q, hq, hp, hn⟩ := shape_cases hs
      rw [hs] at h
      simp only [PyFlat.rows] at h
      by_cases hl : r.length < n
      · rw [if_pos hl] at h; cases h
      · rw [if_neg hl] at h
        simp only at h
        cases hc : PyFlat.calls PyKv351.shape f (r.drop n) with
        | none => rw [hc] at h; cases h
        | some raw' =>
          rw [hc] at h
          cases h
          exact ⟨f, q, n, raw', hq, hp, hn, by omega, rfl, hc⟩
theorem callOf_at {q : Nat} (hq : q < 23) (xs : List Int) : Kv351Neutral.callOf [(q : Int) :: xs] = some (callAt q xs) := by
  rcases upto hq with h | h | h | h | h | h | h | h | h | h | h | h | h | h | h | h | h | h | h | h | h | h | h <;> subst h <;> rfl
theorem step_at {q : Nat} (hq : q < 23) (st : State) (xs : List Int) : Kv351Neutral.step st [(q : Int) :: xs] = ((act st (callAt q xs)).1, Kv351Neutral.row (act st (callAt q xs)).2) := by
  unfold Kv351Neutral.step
  rw [callOf_at hq]
abbrev tell (st : State) (raw : List (List (List Int))) : List Int := PyFlat.told (PyFlat.played Kv351Neutral.step st raw)
theorem tell_nil (st : State) : tell st [] = [] := rfl
theorem tell_cons {q : Nat} (hq : q < 23) (st : State) (xs : List Int) (raw : List (List (List Int))) :
    tell st ([(q : Int) :: xs] :: raw) = ((Kv351Neutral.row (act st (callAt q xs)).2).length : Int) :: Kv351Neutral.row (act st (callAt q xs)).2 ++ tell (act st (callAt q xs)).1 raw := by
  unfold tell PyFlat.told
  simp only [PyFlat.played, List.flatMap_cons, step_at hq]
theorem len0 {xs : List Int} (h : some 0 = some xs.length) : xs = [] := List.length_eq_zero_iff.mp (Option.some.inj h).symm
theorem len1 {xs : List Int} (h : some 1 = some xs.length) : ∃ x, xs = [x] := by
  have h := Option.some.inj h
  match xs, h with
  | [x], _ => exact ⟨x, rfl⟩
theorem len2 {xs : List Int} (h : some 2 = some xs.length) : ∃ x y, xs = [x, y] := by
  have h := Option.some.inj h
  match xs, h with
  | [x, y], _ => exact ⟨x, y, rfl⟩
theorem whole_at {q : Nat} (hq : q < 23) {xs : List Int} (h : counts[q]? = some xs.length) : PyKv351.whole [(q : Int) :: xs] = [(q : Int) :: xs] := by
  rcases upto hq with e | e | e | e | e | e | e | e | e | e | e | e | e | e | e | e | e | e | e | e | e | e | e <;> subst e <;>
    first
    | (obtain rfl := len0 h; rfl)
    | (obtain ⟨x, rfl⟩ := len1 h; rfl)
    | (obtain ⟨x, y, rfl⟩ := len2 h; rfl)
theorem map_whole : ∀ {raw : List (List (List Int))} {f : Nat} {l : List Int}, PyFlat.calls PyKv351.shape f l = some raw → raw.map PyKv351.whole = raw
  | [], _, _, _ => rfl
  | c :: raw, f, l, h => by
    cases l with
    | nil => cases calls_nil h
    | cons p r =>
      obtain ⟨f', q, n, raw', hq, hp, hn, hl, e, h'⟩ := calls_cons h
      injection e with e1 e2
      subst e1 e2 hp
      rw [List.map_cons, map_whole h', whole_at hq (by rw [hn, List.length_take, Nat.min_eq_left hl])]
/-- what is asked of a list: it has calls, at most 256, and their answers are short -/
theorem asked_of {l : List Int} (h : PyKv351.answers_asked l = true) : ∃ raw, PyFlat.calls PyKv351.shape l.length l = some raw ∧ raw.length ≤ 256 ∧ PyKv351.answers l = tell none raw ∧ (PyKv351.answers l).length ≤ 10000000 := by
  unfold PyKv351.answers_asked at h
  cases hc : PyFlat.calls PyKv351.shape l.length l with
  | none => rw [hc] at h; cases h
  | some raw =>
    rw [hc] at h
    simp only [Bool.and_eq_true] at h
    obtain ⟨⟨⟨⟨h1, h2⟩, h3⟩, h4⟩, h5⟩ := h
    refine ⟨raw, rfl, ?_, ?_, ?_⟩
    · unfold PyFlat.atMost at h2; simpa using h2
    · unfold PyKv351.answers PyKv351.calls
      rw [hc]
      show PyFlat.told (PyFlat.played Kv351Neutral.step Kv351Neutral.start (raw.map PyKv351.whole)) = _
      rw [map_whole hc]
      rfl
    · unfold PyFlat.short at h5; simpa using h5
end BW
set_option Elab.async false
set_option linter.all false
set_option maxRecDepth 100000
set_option maxHeartbeats 4000000
/-! Rules that the layer lacks: a call of what stands at a place, the least of a list of tuples, count, sorted the other way round, a comprehension that filters and maps. -/
namespace BW
open PySem PySem.Spec PyProof.Rows L2
/-! ### heaps -/
theorem same_new {H : Hp} {p : Addr} {o : HO} (h : H p = none) : Same H (upd H p o) := fun b u e => by
  rw [upd_ne (ne_of_none e h)]
  exact e
theorem same_put {H H' : Hp} {p : Addr} {o : HO} (s : Same H H') (h : H p = none) : Same H (upd H' p o) := fun b u e => by
  rw [upd_ne (ne_of_none e h)]
  exact s b u e
theorem same_sqT {K : PySem.W.Frag} {H H' : Hp} {a : Addr} {xs : List V} (e : Same H H') (h : SqT K H a xs) : SqT K H' a xs := by
  rcases h with (h | ⟨o, h⟩) | h
  · exact .inl (.inl (e _ _ h))
  · exact .inl (.inr ⟨o, e _ _ h⟩)
  · exact .inr h
/-! ### lists of grams -/
def vi (l : List Nat) : List V := (l.map Int.ofNat).map V.int
theorem vi_length (l : List Nat) : (vi l).length = l.length := by simp [vi]
theorem vi_nil : vi [] = [] := rfl
theorem vi_append (l m : List Nat) : vi (l ++ m) = vi l ++ vi m := by simp [vi]
theorem vi_get {l : List Nat} {i x : Nat} (h : l[i]? = some x) : (vi l)[i]? = some (V.int (x : Int)) := by
  unfold vi
  rw [List.getElem?_map, List.getElem?_map, h]
  rfl
theorem vi_at {l : List Nat} {i : Nat} {v : V} (h : (vi l)[i]? = some v) : ∃ x, l[i]? = some x ∧ v = V.int (x : Int) := by
  unfold vi at h
  rw [List.getElem?_map, List.getElem?_map] at h
  cases e : l[i]? with
  | none => rw [e] at h; cases h
  | some x => rw [e] at h; exact ⟨x, rfl, (Option.some.inj h).symm⟩
theorem vi_mem {l : List Nat} {v : V} (h : v ∈ vi l) : ∃ x, x ∈ l ∧ v = V.int (x : Int) := by
  unfold vi at h
  obtain ⟨z, hz, rfl⟩ := List.mem_map.mp h
  obtain ⟨x, hx, rfl⟩ := List.mem_map.mp hz
  exact ⟨x, hx, rfl⟩
theorem sum_ints (l : List Nat) : (l.map Int.ofNat).sum = (l.sum : Int) := by
  induction l with
  | nil => rfl
  | cons a l ih =>
    rw [List.map_cons, List.sum_cons, List.sum_cons, ih]
    show ((a : Nat) : Int) + (l.sum : Int) = ((a + l.sum : Nat) : Int)
    omega
theorem small_line {n : Nat} (h : n ≤ 100000) : n < sizeLine := Nat.lt_of_le_of_lt h (by rw [sizeLine_eq]; decide)
theorem take_snoc {α : Type} {l : List α} {i : Nat} {x : α} (h : l[i]? = some x) : l.take (i + 1) = l.take i ++ [x] := by
  rw [List.take_add_one, h]
  rfl
section
variable {X : Cx}
/-! ### a call of what stands at a place -/
theorem arm_ix (a b : Expr) (p : Pos) (args : List Expr) (kws : List Keyword) (pos : Pos) (env : Env) :
    eval (.Call (.Subscript a b p) args kws pos) env = (do callWith pos (← eval (.Subscript a b p) env) [] (backTo pos (starEach args env)) (backToKw pos (keywordEach kws env))) := rfl
def tCallV (X : Cx) (tf : TE) (t : TA) : TE := fun σ H Q => tf σ H fun x H1 => ∃ (f : Addr) (k : Nat) (fd : FuncData) (ps : List Str) (sp : Sp), x = .ref f ∧ FnOk X.prog X.w X.K X.mg X.base CX0 k f fd ps sp ∧ Room k X.A ∧
  PySem.W.keepIn X.K (.ref f) = true ∧ Binds X.K fd ps [] ∧ t σ H1 fun vs H2 => sp vs H2 Q E0
theorem pe_callV {a b e : Expr} {es : List Expr} {p pos : Pos} {tf : TE} {t : TA} (hf : PE X (.Subscript a b p) tf) (ha : PA X (e :: es) t)
    (he : starEach (e :: es) X.env = (false, eval e X.env) :: starEach es X.env := by rfl) (hpl : (backTo pos (starEach es X.env)).any (·.1) = false := by rfl) :
    PE X (.Call (.Subscript a b p) (e :: es) [] pos) (tCallV X tf t) := by
  intro pins s σ H Q I h
  rw [arm_ix]
  refine wpAny_bind (thn (hf pins s σ H _ I h) fun u s1 ⟨x, H1, I1, rx, f, k, fd, ps, sp, ex, F, hr, hk, hb, q⟩ => ?_)
  subst ex
  obtain rfl : u = Value.ref f := rx
  refine PySem.W.callWith_K (h₀ := X.base) I.ok.mod.kin hk (thn (ha pos pins s1 σ H1 _ I1 q) fun us s2 ⟨vs, H2, I2, r, q2⟩ => ⟨I2.kIn, ?_⟩) he hpl
  exact run_fn (ds := []) (dvs := []) F hr hb .nil pass0 I2 r (by rw [List.append_nil]; exact q2)
/-! ### in a comprehension's block the written part is the def's -/
theorem ix_listK {K : PySem.W.Frag} (h : X.K = K) : IxR X (rIxL K) := by
  subst h
  exact ix_list
theorem call_lenK {K : PySem.W.Frag} (h : X.K = K) : CallR X (.builtin "len") (fun xs H Q => ∃ p ys, xs = [.ref p] ∧ (SqL K H p ys ∨ SqT K H p ys) ∧ Q (.int ys.length) H) := by
  subst h
  exact call_len_seq
/-! ### count -/
def rCount (K : PySem.W.Frag) : V → List V → Hp → VK → Prop := fun x xs H Q => ∃ (a : Addr) (ns : List Int) (z : Int), x = V.ref a ∧ xs = [V.int z] ∧ SqL K H a (ns.map V.int) ∧ Q (.int ((ns.count z : Nat) : Int)) H
theorem count_eqU (z : Int) : ∀ {ns : List Int} {us : List Value}, Vals (ns.map V.int) us → us.countP (eqU (.int z)) = ns.count z
  | [], us, h => by
    rw [List.map_nil] at h
    cases h
    rfl
  | n :: ns, us, h => by
    rw [List.map_cons] at h
    cases h with
    | cons r t =>
      rw [List.countP_cons, List.count_cons, count_eqU z t, eqU_of r rfl]
      rfl
theorem mt_count : MtR X "list.count" (rCount X.K) := by
  intro pins s σ H x xs v us Q I rx rxs h
  obtain ⟨a, ns, z, rfl, rfl, hs, q⟩ := h
  cases rx
  obtain ⟨uy, rfl, ry⟩ := vals1 rxs
  obtain ⟨its, rv, ⟨⟨cls, dd, data, sl⟩, n, ho, hc, hdn, hd⟩, hlen⟩ := I.list hs
  simp only at hc hd
  subst hc hd
  have fl : (ns.map V.int).all flatV = true := by
    rw [List.all_eq_true]
    intro y hy
    obtain ⟨i, _, rfl⟩ := List.mem_map.mp hy
    rfl
  refine call_meets PySem.F.slot_list_count ⟨_, ho, rfl⟩ PySem.F.entry_list_count (PySem.F.args_list_count_2 _ _)
    (SeqAt.list_countAt a its.toArray n dd sl uy (eqU (.int z))) ⟨ho, fun u' hu' => mem_eqAt ry rfl rv fl u' (by simpa using hu'), ?_⟩
  refine ⟨.int ((ns.count z : Nat) : Int), H, I.tok _, ⟨s.toks, ?_⟩, q⟩
  have e : its.toArray.toList.countP (eqU (.int z)) = ns.count z := by
    show its.countP (eqU (.int z)) = ns.count z
    exact count_eqU z rv
  rw [e]
/-! ### sorted, the greatest first -/
def rSortedD (K : PySem.W.Frag) : List V → Hp → VK → Prop := fun vs H Q => ∃ (a : Addr) (ns : List Int), vs = [V.ref a] ∧ SqL K H a (ns.map V.int) ∧ ns.length < 64 ∧
  ∀ (ns' : List Int) (p : Addr), ns'.Perm ns → ns'.Pairwise (fun a b => b ≤ a) → H p = none → Q (.ref p) (upd H p (.lst (ns'.map V.int)))
theorem pe_sortedD {e : Expr} {t : TA} {p pos kp cp : Pos} {j : Nat} (hg : Gl X "sorted") (hm : X.mg "sorted" = none) (ha : PA X [e] t) (hv : bootBuiltins "sorted" = some (.builtin "sorted"))
    (he : backTo pos (starEach [e] X.env) = (false, eval e X.env) :: backTo pos (starEach [] X.env) := by rfl) (hpl : (backTo pos (starEach [e] X.env)).any (·.1) = false := by rfl) :
    PE X (.Call (.Name "sorted" p) [e] [⟨some "reverse", .Constant (.bool true) j cp, kp⟩] pos) (tCB (rSortedD X.K) t) := by
  intro pins s σ H Q I h
  refine wpAny_Call_Name_kw (ld_blt I hg hm hv ?_)
  refine callWith_kw (thn (ha pos pins s σ H _ I h) fun us s1 ⟨vs, H1, I1, r, q⟩ => ?_) he hpl rfl rfl
  refine kws_cons (Constant_bool (kws_nil ?_))
  obtain ⟨a, ns, rfl, hs, h64, q⟩ := q
  obtain ⟨its, rv, hl, _⟩ := I1.list hs
  rw [Vals.ref1 r]
  have hi := rv.ints
  show wpAny _ _ (call (.builtin "sorted") [.ref a] [(Str.ofString "reverse", .bool true)]) _ _ s1
  refine PyProof.Rows.sorted_ints_rev (b := true) hl.isList hi (by rw [hi.length]; exact h64) fun out ns' h1 h2 h3 => ?_
  obtain ⟨ep, he'⟩ := PyProof.Rows.sortedAll_at s1.heap its out
  have hlen : (ns'.map V.int).length ≤ sizeLine := by rw [List.length_map, h2.length_eq]; exact small64 h64
  exact ⟨.ref _, upd H1 (s1.heap.objs.size + 1) (.lst (ns'.map V.int)), I1.laid (t' := s1.toks) (fun _ _ => PyProof.Rows.sortedAll_old) (Nat.le_succ _) ⟨hlen, out.toList, ep, vals_of_ints h1, he'⟩, rfl,
    q ns' _ h2 h3 (I1.hok.fresh (Nat.le_succ _))⟩
end
/-! ### a comprehension that filters and maps, over a list, and makes nothing else -/
theorem lc_fm {K : PySem.W.Frag} {a : Addr} {xs : List V} {g : TG} {tt : TT} {te : TE} {vs : List Nat} {σ : L2.St} {H1 : Hp} {D : Addr} {Qd : Hp → Prop} (p : V → Bool) (f : V → V) (h0 : SqL K H1 a xs) (hD : H1 D = none) (hz : xs.length < sizeLine)
    (hs : ∀ (x : V) (H : Hp) (k : V → Hp → Prop) (k' : Hp → Prop), x ∈ xs → Same H1 H → (p x = true → k (f x) H) → (p x = false → k' H) →
      g x (wipe σ vs) H fun σ2 H2 => wipe σ2 vs = wipe σ vs ∧ tt σ2 H2 fun b H3 => if b = true then te σ2 H3 k else k' H3)
    (hd : ∀ H, Same H1 H → H D = some (.lst ((xs.filter p).map f)) → Qd H) :
    ∃ W : Nat → Nat → Hp → Prop, (∃ m, W 0 m (upd H1 D (.lst []))) ∧ ∀ i m H, W i m H →
      ((Itl K a).stop i H ∧ Qd H) ∨ ((Itl K a).go i H ∧ ∃ Nx : Hp → Prop, (∀ H', Nx H' → ∃ m', m' < m ∧ W (i + 1) m' H') ∧ ∀ x H', (Itl K a).yld i H x H' → g x (wipe σ vs) H' fun σ2 H2 => wipe σ2 vs = wipe σ vs ∧ tt σ2 H2 fun b H3 =>
        if b = true then te σ2 H3 fun y H4 => ∃ acc, H4 D = some (.lst acc) ∧ acc.length < sizeLine ∧ Nx (upd H4 D (.lst (acc ++ [y]))) else Nx H3) := by
  refine lc_list (K := K) (a := a) (xs := xs) (fun i H => Same H1 H ∧ H D = some (.lst (((xs.take i).filter p).map f))) ⟨same_new hD, upd_same⟩ (fun i H _ q => q.1.seq h0) (fun i x H hx q => ?_) fun H q => hd H q.1 (by rw [q.2, List.take_length])
  obtain ⟨s1, q⟩ := q
  have hx' : x ∈ xs := List.mem_of_getElem? hx
  refine hs x H _ _ hx' s1 (fun hp => ⟨_, q, ?_, same_put s1 hD, ?_⟩) fun hp => ⟨s1, ?_⟩
  · rw [List.length_map]
    refine Nat.lt_of_le_of_lt (Nat.le_trans (List.length_filter_le _ _) ?_) hz
    rw [List.length_take]
    exact Nat.min_le_right _ _
  · rw [upd_same, take_snoc hx, List.filter_append, List.map_append]
    simp [hp]
  · rw [q, take_snoc hx, List.filter_append, List.map_append]
    simp [hp]
/-! ### the least of a list of tuples of ints -/
section
variable {prog : Program} {w : World} {A : Around} {R : Result → Shared → Prop} {I : Addr} {fp wr : List Addr} {n : Nat} {P : Nat → Value → Prop} {St : Nat → Heap → Prop}
/-- a comparison that leans on what stands in the heap h0 -/
def CmpIn (prog : Program) (w : World) (A : Around) (h0 : Heap) (P : Nat → Value → Prop) (bt : Nat → Nat → Bool) : Prop :=
  ∀ i j vi vj (s : Shared) (Q E : Value → Shared → Prop), (∀ b o, h0.get? b = some o → s.heap.get? b = some o) → P i vi → P j vj → Q (.bool (bt i j)) s → wpAny (model prog w) A (richCompare .Lt vi vj) Q E s
theorem minLoopName : (toString "min" ++ toString ".loop" : String) = "min.loop" := by decide
theorem min_turns (W : Walks prog w A.in1 I fp wr n P St) (bt : Nat → Nat → Bool) (h0 : Heap) (cmp : CmpIn prog w A.in1 h0 P bt) (S : Addr) (hSf : S ∉ fp) (hS0 : h0.get? S = none) (hw0 : ∀ b ∈ wr, h0.get? b = none) :
    ∀ (k j : Nat) (s : Shared) (vb : Value) (c : Nat), n - (j + 1) = k → j + 1 ≤ n → St (j + 1) s.heap → P (argBest bt j) vb → s.heap.get? S = some { cls := .type "list", dict := none, data := .seq #[vb, vb] c, slots := #[] } →
      (∀ b o, h0.get? b = some o → s.heap.get? b = some o) →
      (∀ v h' tk, P (argBest bt (n - 1)) v → (∀ b o, h0.get? b = some o → h'.get? b = some o) → R (.ok (.ret v)) { s with heap := h', toks := tk }) →
      codeAny (model prog w) A (.builtin "min.loop" ⟨[.ref I, .none, .ref S], []⟩) R s := by
  have hSw : S ∉ wr := fun h => hSf (W.sub _ h)
  have nS : ∀ {b : Addr} {o : Obj}, h0.get? b = some o → S ≠ b := fun {b o} e q => by rw [q, e] at hS0; cases hS0
  have nW : ∀ {b : Addr} {o : Obj}, h0.get? b = some o → b ∉ wr := fun {b o} e q => by have z := hw0 b q; rw [e] at z; cases z
  intro k
  induction k with
  | zero =>
    intro j s vb c hk hj st pb eS kp done
    have hin : j + 1 = n := by omega
    refine codeAny_builtin PySem.F.entry_min_loop ?_
    rw [Around.under_plainId PySem.F.plain_min_loop _]
    show wpAny _ A.in1 (seqItems? (.ref S) >>= fun _ => _) _ _ s
    refine wpAny_bind (wpAny_seqItems eS rfl (?_ : wpAny _ A.in1 (tryCatch (pyNext (.ref I)) _ >>= fun _ => _) _ _ s))
    refine wpAny_bind (wpAny_tryCatch (W.done s _ _ (by rw [← hin]; exact st) fun h1 tk kp1 => ?_))
    have eS1 := kp1 S _ hSw eS
    show wpAny _ A.in1 (updateSeq S (fun _ => #[]) >>= fun _ => _) _ _ _
    refine wpAny_bind (wpAny_updateSeq eS1 rfl (wpAny_bind (wpAny_letGo (wpAny_pure ?_))))
    exact done vb _ tk (by rw [← hin]; exact pb) fun b o e => (Heap.get?_update_other _ _ (nS e)).trans (kp1 b o (nW e) (kp b o e))
  | succ k ih =>
    intro j s vb c hk hj st pb eS kp done
    have hlt : j + 1 < n := by omega
    refine codeAny_builtin PySem.F.entry_min_loop ?_
    rw [Around.under_plainId PySem.F.plain_min_loop _]
    show wpAny _ A.in1 (seqItems? (.ref S) >>= fun _ => _) _ _ s
    refine wpAny_bind (wpAny_seqItems eS rfl (?_ : wpAny _ A.in1 (tryCatch (pyNext (.ref I)) _ >>= fun _ => _) _ _ s))
    refine wpAny_bind (wpAny_tryCatch (W.item (j + 1) s _ _ hlt st fun v h1 tk pv st1 kp1 => ?_))
    have eS1 := kp1 S _ hSw eS
    have kp2 : ∀ b o, h0.get? b = some o → h1.get? b = some o := fun b o e => kp1 b o (nW e) (kp b o e)
    show wpAny _ A.in1 (tryCatch (holding [v, v] (richCompare .Lt v vb >>= fun _ => _)) _ >>= fun _ => _) _ _ _
    refine wpAny_bind (wpAny_tryCatch (wpAny_holding (wpAny_bind (cmp (j + 1) (argBest bt j) v vb _ _ _ kp2 pv pb ?_))))
    refine wpAny_bind (wpAny_holding (wpAny_truthy_bool (wpAny_bind (wpAny_letGo (wpAny_pure ?_)))))
    cases hb : bt (j + 1) (argBest bt j) with
    | true =>
      simp only [if_true]
      refine wpAny_bind (wpAny_updateSeq eS1 rfl (wpAny_bind (wpAny_letGo ?_)))
      rw [minLoopName]
      refine wpAny_pure ⟨plainId_quiet PySem.F.plain_min_loop _, ih (j + 1) _ v _ (by omega) hlt (W.frame _ _ _ st1 fun b hbf o e => ?_) (by simp only [argBest, hb, if_true]; exact pv) (Heap.get?_update_self _ eS1 rfl)
        (fun b o e => (Heap.get?_update_other _ _ (nS e)).trans (kp2 b o e)) fun v2 h2 tk2 p2 k2 => done v2 h2 tk2 p2 k2⟩
      exact (Heap.get?_update_other _ _ (fun z : S = b => hSf (by rw [z]; exact hbf))).trans e
    | false =>
      simp only [Bool.false_eq_true, if_false]
      refine wpAny_bind (wpAny_letGo ?_)
      rw [minLoopName]
      exact wpAny_pure ⟨plainId_quiet PySem.F.plain_min_loop _, ih (j + 1) _ vb c (by omega) hlt st1 (by simp only [argBest, hb, Bool.false_eq_true, if_false]; exact pb) eS1 kp2 fun v2 h2 tk2 p2 k2 => done v2 h2 tk2 p2 k2⟩
theorem min_first (W : Walks prog w A.in1 I fp wr n P St) (bt : Nat → Nat → Bool) (h0 : Heap) (cmp : CmpIn prog w A.in1 h0 P bt) (S : Addr) (hSf : S ∉ fp) (hS0 : h0.get? S = none) (hw0 : ∀ b ∈ wr, h0.get? b = none) (hn : 0 < n)
    {s : Shared} {c : Nat} (st : St 0 s.heap) (eS : s.heap.get? S = some { cls := .type "list", dict := none, data := .seq #[] c, slots := #[] }) (kp : ∀ b o, h0.get? b = some o → s.heap.get? b = some o)
    (done : ∀ v h' tk, P (argBest bt (n - 1)) v → (∀ b o, h0.get? b = some o → h'.get? b = some o) → R (.ok (.ret v)) { s with heap := h', toks := tk }) :
    codeAny (model prog w) A (.builtin "min.loop" ⟨[.ref I, .none, .ref S], []⟩) R s := by
  have hSw : S ∉ wr := fun h => hSf (W.sub _ h)
  have nS : ∀ {b : Addr} {o : Obj}, h0.get? b = some o → S ≠ b := fun {b o} e q => by rw [q, e] at hS0; cases hS0
  have nW : ∀ {b : Addr} {o : Obj}, h0.get? b = some o → b ∉ wr := fun {b o} e q => by have z := hw0 b q; rw [e] at z; cases z
  refine codeAny_builtin PySem.F.entry_min_loop ?_
  rw [Around.under_plainId PySem.F.plain_min_loop _]
  show wpAny _ A.in1 (seqItems? (.ref S) >>= fun _ => _) _ _ s
  refine wpAny_bind (wpAny_seqItems eS rfl (?_ : wpAny _ A.in1 (tryCatch (pyNext (.ref I)) _ >>= fun _ => _) _ _ s))
  refine wpAny_bind (wpAny_tryCatch (W.item 0 s _ _ hn st fun v h1 tk pv st1 kp1 => ?_))
  have eS1 := kp1 S _ hSw eS
  show wpAny _ A.in1 (updateSeq S (fun _ => #[v, v]) >>= fun _ => _) _ _ _
  refine wpAny_bind (wpAny_updateSeq eS1 rfl ?_)
  rw [minLoopName]
  refine wpAny_pure ⟨plainId_quiet PySem.F.plain_min_loop _, min_turns W bt h0 cmp S hSf hS0 hw0 _ 0 _ v _ rfl hn (W.frame _ _ _ st1 fun b hbf o e => ?_) pv (Heap.get?_update_self _ eS1 rfl)
    (fun b o e => (Heap.get?_update_other _ _ (nS e)).trans (kp1 b o (nW e) (kp b o e))) fun v2 h2 tk2 p2 k2 => done v2 h2 tk2 p2 k2⟩
  exact (Heap.get?_update_other _ _ (fun z : S = b => hSf (by rw [z]; exact hbf))).trans e
end
section
variable {prog : Program} {w : World} {A : Around} {E : Value → Shared → Prop} {s : Shared} {l : Addr}
theorem min_tups {its : Array Value} {bt : Nat → Nat → Bool} {Q : Value → Shared → Prop} (hh : A.handled = none) (hl : s.heap.IsList l its) (hne : 0 < its.size) (cmp : CmpIn prog w A.in1 s.heap (fun i v => its[i]? = some v) bt)
    (h : ∀ v h' tk, its[argBest bt (its.size - 1)]? = some v → (∀ b o, s.heap.get? b = some o → h'.get? b = some o) → Q v { s with heap := h', toks := tk }) : wpAny (model prog w) A (call (.builtin "min") [.ref l]) Q E s := by
  have hlt : l < s.heap.objs.size := by obtain ⟨_, e, _⟩ := hl; exact Heap.lt_size e
  have none0 : ∀ {b : Addr}, s.heap.objs.size ≤ b → s.heap.get? b = none := fun {b} hb => by
    cases e : s.heap.get? b with
    | none => rfl
    | some o => exact absurd (Heap.lt_size e) (Nat.not_lt.mpr hb)
  refine call_function_tree PySem.F.kind_min PySem.F.plain_min PySem.F.entry_min (PySem.F.args_min1 _) ?_
  show wpAny _ A.in1 (Builtin.Builtins.bindParams "min" ["key", "default"] 0 ⟨[], []⟩ >>= fun _ => _) _ _ s
  refine wpAny_bind (wpAny_of_eq (show Builtin.Builtins.bindParams "min" ["key", "default"] 0 ⟨[], []⟩ = pure [none, none] by rfl) (wpAny_bind (wpAny_pure ?_)))
  refine wpAny_bind (wpAny_pyIter_list hl ?_)
  refine wpAny_bind (wpAny_newObj_type ?_)
  rw [minLoopName]
  have hsz : (s.heap.push { cls := .type "list_iterator", data := .fields #[.ref l, .int 0 0] }).objs.size = s.heap.objs.size + 1 := Heap.size_push ..
  refine wpAny_pure ⟨plainId_quiet PySem.F.plain_min_loop _, min_first (Walks.list (A := A.in1) hh s.heap.objs.size l (Nat.ne_of_lt hlt) its) bt s.heap cmp _ (fun hm => ?_) (none0 ?_) (fun b hb => ?_) hne
    ⟨⟨_, Heap.get?_push_of_some _ (Heap.get?_push_size _ rfl), rfl, rfl⟩, (hl.push _).push _⟩ (Heap.get?_push_size _ rfl) (fun b o e => Heap.get?_push_of_some _ (Heap.get?_push_of_some _ e)) fun v h' tk hv hk => h v h' tk hv hk⟩
  · rw [hsz] at hm
    rcases List.mem_cons.mp hm with z | z
    · exact absurd z (Nat.ne_of_gt (Nat.lt_succ_self _))
    · have z := List.mem_singleton.mp z
      rw [← z] at hlt
      exact absurd hlt (Nat.not_lt.mpr (Nat.le_succ _))
  · rw [hsz]; exact Nat.le_succ _
  · rw [List.mem_singleton.mp hb]; exact none0 (Nat.le_refl _)
end
theorem argBest_is {bt : Nat → Nat → Bool} (irr : ∀ a, bt a a = false) (asy : ∀ a b, bt a b = true → bt b a = false) (tr : ∀ a b c, bt a b = false → bt b c = false → bt a c = false) :
    ∀ k, argBest bt k ≤ k ∧ ∀ i, i ≤ k → bt i (argBest bt k) = false
  | 0 => ⟨Nat.le_refl _, fun i hi => by
      have : i = 0 := by omega
      subst this
      exact irr _⟩
  | k + 1 => by
    obtain ⟨h1, h2⟩ := argBest_is irr asy tr k
    unfold argBest
    by_cases hb : bt (k + 1) (argBest bt k) = true
    · rw [if_pos hb]
      refine ⟨Nat.le_refl _, fun i hi => ?_⟩
      by_cases hi' : i = k + 1
      · subst hi'; exact irr _
      · exact tr _ _ _ (h2 i (by omega)) (asy _ _ hb)
    · rw [if_neg hb]
      refine ⟨by omega, fun i hi => ?_⟩
      by_cases hi' : i = k + 1
      · subst hi'; simpa using hb
      · exact h2 i (by omega)
theorem lex_irr : ∀ a : List Int, HT.lexLt a a = false
  | [] => rfl
  | x :: xs => by rw [HT.lexLt_cons, if_pos rfl]; exact lex_irr xs
theorem lex_asy : ∀ a b : List Int, HT.lexLt a b = true → HT.lexLt b a = false
  | [], [], h => rfl
  | [], _ :: _, h => rfl
  | _ :: _, [], h => by rw [HT.lexLt_cons_nil] at h; cases h
  | x :: xs, y :: ys, h => by
    rw [HT.lexLt_cons] at h ⊢
    by_cases e : x = y
    · rw [if_pos e] at h
      rw [if_pos e.symm]
      exact lex_asy xs ys h
    · rw [if_neg e] at h
      rw [if_neg fun q => e q.symm]
      simp only [decide_eq_true_eq] at h
      simp only [decide_eq_false_iff_not]
      omega
theorem lex_tr : ∀ a b c : List Int, HT.lexLt a b = false → HT.lexLt b c = false → HT.lexLt a c = false
  | [], [], c, _, h2 => h2
  | [], _ :: _, _, h1, _ => by rw [HT.lexLt_nil_cons] at h1; cases h1
  | _ :: _, _, [], _, _ => rfl
  | _ :: _, [], _ :: _, _, h2 => by rw [HT.lexLt_nil_cons] at h2; cases h2
  | x :: xs, y :: ys, z :: zs, h1, h2 => by
    rw [HT.lexLt_cons] at h1 h2 ⊢
    by_cases e1 : x = y
    · rw [if_pos e1] at h1
      subst e1
      by_cases e2 : x = z
      · rw [if_pos e2] at h2 ⊢
        exact lex_tr xs ys zs h1 h2
      · rw [if_neg e2] at h2 ⊢
        exact h2
    · rw [if_neg e1] at h1
      simp only [decide_eq_false_iff_not] at h1
      by_cases e2 : y = z
      · subst e2
        rw [if_neg e1]
        simp only [decide_eq_false_iff_not]
        exact h1
      · rw [if_neg e2] at h2
        simp only [decide_eq_false_iff_not] at h2
        rw [if_neg (by omega)]
        simp only [decide_eq_false_iff_not]
        omega
section
variable {X : Cx}
/-- min(xs), xs a list of tuples of ints: one of them that none of them is below -/
def rMinT (K : PySem.W.Frag) : List V → Hp → VK → Prop := fun vs H Q => ∃ (a : Addr) (ps : List Addr) (ks : List (List Int)), vs = [V.ref a] ∧ SqL K H a (ps.map V.ref) ∧ 0 < ps.length ∧ ps.length = ks.length ∧
  (∀ (i : Nat) (p : Addr) (k : List Int), ps[i]? = some p → ks[i]? = some k → SqT K H p (k.map V.int)) ∧
  ∀ (j : Nat) (p : Addr) (k : List Int), ps[j]? = some p → ks[j]? = some k → (∀ (i : Nat) (k' : List Int), ks[i]? = some k' → HT.lexLt k' k = false) → Q (.ref p) H
theorem vals_refs : ∀ {ps : List Addr} {us : List Value}, Vals (ps.map V.ref) us → us = ps.map Value.ref
  | [], us, h => by
    rw [List.map_nil] at h
    cases h
    rfl
  | p :: ps, us, h => by
    rw [List.map_cons] at h
    cases h with
    | cons r t =>
      cases r
      rw [vals_refs t, List.map_cons]
theorem cr_minT (hc : X.calm = true) (hu : X.A.units + 64 < cLine) : CallR X (.builtin "min") (rMinT X.K) := by
  intro pins s σ H vs us Q I r h
  obtain ⟨a, ps, ks, rfl, hs, hne, hlen, htup, q⟩ := h
  obtain ⟨its, rv, hl, _⟩ := I.list hs
  rw [Vals.ref1 r]
  have ev := vals_refs rv
  subst ev
  have at_ : ∀ {i : Nat} {v : Value}, ((ps.map Value.ref).toArray)[i]? = some v → ∃ p k, ps[i]? = some p ∧ ks[i]? = some k ∧ v = Value.ref p ∧ ks.getD i [] = k := fun {i v} e => by
    have e' : (ps.map Value.ref)[i]? = some v := by simpa using e
    rw [List.getElem?_map] at e'
    cases hp : ps[i]? with
    | none => rw [hp] at e'; cases e'
    | some p =>
      rw [hp] at e'
      have hi : i < ks.length := by rw [← hlen]; exact (List.getElem?_eq_some_iff.mp hp).1
      exact ⟨p, ks[i], rfl, List.getElem?_eq_getElem hi, (Option.some.inj e').symm, by simp [List.getD, List.getElem?_eq_getElem hi]⟩
  have hsz : ((ps.map Value.ref).toArray).size = ps.length := by simp
  refine min_tups (bt := fun i j => HT.lexLt (ks.getD i []) (ks.getD j [])) (I.ok.hd hc) hl.isList (by rw [hsz]; exact hne) (fun i j vi vj s2 Q2 E2 kp hi hj hq => ?_) fun v h' tk hv hk => ?_
  · obtain ⟨p, k, hp, hk, rfl, ek⟩ := at_ hi
    obtain ⟨p2, k2, hp2, hk2, rfl, ek2⟩ := at_ hj
    obtain ⟨t1, r1, ⟨o1, e1, c1, n1, d1⟩, _⟩ := I.tuple (htup i p k hp hk)
    obtain ⟨t2, r2, ⟨o2, e2, c2, n2, d2⟩, _⟩ := I.tuple (htup j p2 k2 hp2 hk2)
    have hq : Q2 (.bool (HT.lexLt (ks.getD i []) (ks.getD j []))) s2 := hq
    rw [ek, ek2] at hq
    show wpAny _ _ (compareOp .Lt (.ref p) (.ref p2)) Q2 E2 s2
    have hu1 : X.A.in1.units < cLine := by
      show X.A.units + 1 < cLine
      omega
    exact HT.lt_tupInts (items := t1.toArray) (items2 := t2.toArray) ⟨o1, kp _ _ e1, c1, n1, d1⟩ ⟨o2, kp _ _ e2, c2, n2, d2⟩ r1.ints r2.ints hu1 hq
  · obtain ⟨p, k, hp, hkj, rfl, ek⟩ := at_ hv
    refine ⟨.ref p, H, I.kept hk, rfl, q _ p k hp hkj fun i k' hk' => ?_⟩
    have hb := (argBest_is (bt := fun i j => HT.lexLt (ks.getD i []) (ks.getD j [])) (fun _ => lex_irr _) (fun _ _ => lex_asy _ _) (fun _ _ _ => lex_tr _ _ _) (((ps.map Value.ref).toArray).size - 1)).2 i (by
      have := (List.getElem?_eq_some_iff.mp hk').1
      rw [hsz]; omega)
    have e2 : ks.getD i [] = k' := by simp [List.getD, hk']
    simp only [e2] at hb
    rw [ek] at hb
    exact hb
end
end BW
set_option Elab.async false
set_option linter.all false
set_option maxRecDepth 100000
set_option maxHeartbeats 4000000
/-! Rules for stage 2's code: within a comprehension's block the written part is the def's; a comprehension over enumerate. -/
namespace BW
open PySem PySem.Spec PyProof.Rows L2
section
variable {X : Cx}
theorem cr_sumK {K : PySem.W.Frag} (h : X.K = K) (hc : X.calm = true) : CallR X (.builtin "sum") (rSum K) := by
  subst h
  exact cr_sum hc
theorem pe_fldK {K : PySem.W.Frag} {e : Expr} {f : Str} {pos : Pos} {ta : TE} (h : X.K = K) (he : PE X e ta) (hb : attributeBase e f X.env (eval e X.env) = eval e X.env) : PE X (.Attribute e f pos) (tFld K ta f) := by
  subst h
  exact pe_fld he hb
theorem pg_tupK {K : PySem.W.Frag} {es : List Expr} {k : Nat} {t : TGs} {n : Nat} {pos : Pos} (h : X.K = K) (hc : X.calm = true) (hp : PGs X es t)
    (hn : (assignEach es X.env).length = n := by rfl) (hst : (assignEach es X.env).findIdx? (·.1) = none := by rfl) : PG X (.Tuple es k pos) (gTup K n t) := by
  subst h
  exact pg_tup hc hp hn hst
end
/-- over enumerate(list), the list left as it is: each turn makes a new pair -/
theorem lc_enum {K : PySem.W.Frag} {a : Addr} {xs : List V} {g : TG} {tt : TT} {te : TE} {vs : List Nat} {σ : L2.St} {H1 : Hp} {D : Addr} {Qd : Hp → Prop} (Pv : Nat → Hp → Prop) (h0 : Pv 0 (upd H1 D (.lst []))) (hl : ∀ i H, i ≤ xs.length → Pv i H → SqL K H a xs)
    (hs : ∀ i x H T, xs[i]? = some x → Pv i H → H T = none → g (.ref T) (wipe σ vs) (upd H T (.tup [.int ((i : Nat) : Int), x])) fun σ2 H2 => wipe σ2 vs = wipe σ vs ∧ tt σ2 H2 fun b H3 =>
      if b = true then te σ2 H3 fun y H4 => ∃ acc, H4 D = some (.lst acc) ∧ acc.length < sizeLine ∧ Pv (i + 1) (upd H4 D (.lst (acc ++ [y]))) else Pv (i + 1) H3) (hd : ∀ H, Pv xs.length H → Qd H) :
    ∃ W : Nat → Nat → Hp → Prop, (∃ m, W 0 m (upd H1 D (.lst []))) ∧ ∀ i m H, W i m H →
      ((Ite K a).stop i H ∧ Qd H) ∨ ((Ite K a).go i H ∧ ∃ Nx : Hp → Prop, (∀ H', Nx H' → ∃ m', m' < m ∧ W (i + 1) m' H') ∧ ∀ x H', (Ite K a).yld i H x H' → g x (wipe σ vs) H' fun σ2 H2 => wipe σ2 vs = wipe σ vs ∧ tt σ2 H2 fun b H3 =>
        if b = true then te σ2 H3 fun y H4 => ∃ acc, H4 D = some (.lst acc) ∧ acc.length < sizeLine ∧ Nx (upd H4 D (.lst (acc ++ [y]))) else Nx H3) := by
  refine ⟨fun i m H => m = xs.length - i ∧ i ≤ xs.length ∧ Pv i H, ⟨xs.length, by simp, Nat.zero_le _, h0⟩, ?_⟩
  rintro i m H ⟨rfl, hi, p⟩
  have q := hl i H hi p
  by_cases hlt : i < xs.length
  · refine .inr ⟨⟨xs, xs[i], q, by simp [hlt]⟩, Pv (i + 1), fun H' p' => ⟨xs.length - (i + 1), by omega, rfl, hlt, p'⟩, fun x H' y => ?_⟩
    obtain ⟨T, x0, e1, hT, e2, y⟩ := y
    subst e1 e2
    exact hs i x0 H T (y xs q) p hT
  · have e : i = xs.length := by omega
    subst e
    exact .inl ⟨⟨xs, q, Nat.le_refl _⟩, hd H p⟩
end BW
set_option Elab.async false
set_option linter.all false
set_option maxRecDepth 100000
set_option maxHeartbeats 4000000
namespace BW
open PySem PySem.Spec PyProof.Rows L2
/-! ### the text by places -/
def top (i : Nat) : Stmt := PySem.Challenge.pw_basketweights_s01_answers.main.body.getD i (.Pass ⟨0, 0, 0, 0⟩)
abbrev sWS : Stmt := top 1
abbrev sCS : Stmt := top 2
abbrev sBS : Stmt := top 3
abbrev sFP : Stmt := top 4
abbrev sMP : Stmt := top 5
abbrev sHW : Stmt := top 6
abbrev sPS : Stmt := top 7
abbrev sWR : Stmt := top 8
end BW
set_option Elab.async false
set_option linter.all false
set_option maxRecDepth 100000
set_option maxHeartbeats 4000000
namespace BW
open PySem PySem.Spec PyProof.Rows L2
section
variable {P : Program} {w : World} {K : PySem.W.Frag} {mg : Str → Option Value} {base : Heap}
/-! ### weigh_sets -/
def spWS (K : PySem.W.Frag) : Sp := fun vs H Q _ => ∃ (a : Addr) (l : List Nat), vs = [.ref a] ∧ SqL K H a (vi l) ∧ l.length ≤ 9 ∧
  ∀ (H' : Hp) (p : Addr), Same H H' → H p = none → H' p = some (.lst (vi (weighs l))) → Q (.ref p) H'
theorem weighs_small {l : List Nat} (h : l.length ≤ 9) : (weighs l).length ≤ 512 := by
  rw [weighs_length]
  exact Nat.le_trans (Nat.pow_le_pow_right (by decide) h) (by decide)
def plusV (g : Int) : V → V
  | .int z => .int (z + g)
  | v => v
theorem map_plus (ws : List Nat) (g : Nat) : ((vi ws).filter fun _ => true).map (plusV (g : Int)) = vi (ws.map (· + g)) := by
  rw [List.filter_eq_self.mpr (fun _ _ => rfl)]
  unfold vi
  rw [List.map_map, List.map_map, List.map_map, List.map_map]
  apply List.map_congr_left
  intro x _
  show V.int (((x : Nat) : Int) + (g : Int)) = V.int ((x + g : Nat) : Int)
  congr 1
theorem scWS : FnScope ["pieces", "weights", "grams", "weight"] ["pieces"] (defScope sWS) := ⟨rfl, rfl, rfl, by decide +kernel, rfl, by decide +kernel, by decide +kernel⟩
theorem ok_ws {f : Addr} {fd : FuncData} (F : Fun K "weigh_sets" "weigh_sets" sWS f fd) : FnOk P w K mg base CX0 1 f fd ["pieces"] (spWS K) := by
  refine F.ok scWS (fun vs H Q E h => ?_) (fun cdv A outer s H vs Q E hr h => ?_)
  · obtain ⟨a, l, rfl, _⟩ := h
    rfl
  · obtain ⟨a, l, rfl, hS, hlen, k⟩ := h
    refine ⟨_, pss_cons (ps_set (i := 1) scWS.nd rfl (Or.inl rfl) (pe_lst (pa_cons pe_int pa_nil)))
      (pss_cons (ps_for PassesOwn.never rfl (pi_list (pv 0)) (pg_name (i := 2) scWS.nd rfl (Or.inr rfl))
        (pss_one (ps_set (i := 1) scWS.nd rfl (Or.inl rfl) (pe_op op_cat (pv 1)
          (pe_lc (own := [("weight", 3)]) rfl scWS.nd (pi_list (pv 1)) (blkOk_by rfl) (fun _ _ _ _ _ => pg_name (i := 3) scWS.nd rfl (Or.inl rfl)) (fun _ _ _ _ _ => pts_nil) (fun _ _ _ _ _ => pe_op op_add (pv 3) (pv 2)))))))
      (pss_one (ps_ret (pv 1)))), ?_⟩
    refine ⟨(by show 1 ≤ sizeLine; decide), fun q hq => ?_⟩
    refine ⟨_, rfl, a, rfl, ⟨_, (same_new hq).seq hS⟩, for_list (K := K) (a := a) (xs := vi l) (fun i σ H' => ∃ (q : Addr) (v : Option V), σ = [some (.ref a), some (.ref q), v, none] ∧ Same H H' ∧ H q = none ∧ H' q = some (.lst (vi (weighs (l.take i)))))
      ⟨q, none, rfl, same_new hq, hq, upd_same⟩ (fun i σ H' _ ⟨_, _, _, s1, _⟩ => s1.seq hS) ?_ ?_⟩
    · rintro i y σ H' hi ⟨q, v, rfl, s1, hq0, hq1⟩
      obtain ⟨g, hg, rfl⟩ := vi_at hi
      have hw : (weighs (l.take i)).length ≤ 512 := weighs_small (by rw [List.length_take]; omega)
      refine ⟨_, rfl, _, rfl, q, rfl, ⟨_, SqL.of hq1⟩, fun D hD => ?_⟩
      refine lc_fm (K := K) (xs := vi (weighs (l.take i))) (fun _ => true) (plusV (g : Int)) (SqL.of hq1) hD (small_line (by rw [vi_length]; omega)) (fun x H2 kk kk' hx s2 h1 h2 => ?_) fun H2 s2 hD2 => ?_
      · obtain ⟨z, _, rfl⟩ := vi_mem hx
        exact ⟨rfl, iteT (B := kk' H2) ⟨_, rfl, _, rfl, _, _, rfl, rfl, h1 rfl⟩⟩
      · have hqD : H2 q = some (.lst (vi (weighs (l.take i)))) := s2 _ _ hq1
        rw [map_plus] at hD2
        refine ⟨q, D, _, _, rfl, rfl, hqD, hD2, ?_, fun p hp => ?_⟩
        · rw [vi_length, vi_length, List.length_map]
          exact Nat.le_of_lt (small_line (by omega))
        · have s12 : Same H H2 := s1.trans s2
          have hp0 : H p = none := s12.free hp
          refine ⟨p, some (.int (g : Int)), rfl, same_put s12 hp0, hp0, ?_⟩
          rw [upd_same, ← vi_append, take_snoc hg, weighs_snoc]
    · rintro σ H' ⟨q, v, rfl, s1, hq0, hq1⟩
      rw [vi_length, List.take_length] at hq1
      exact ⟨_, rfl, k H' q s1 hq0 hq1⟩
end
end BW
set_option Elab.async false
set_option linter.all false
set_option maxRecDepth 100000
set_option maxHeartbeats 4000000
namespace BW
open PySem PySem.Spec PyProof.Rows L2
section
variable {P : Program} {w : World} {K : PySem.W.Frag} {mg : Str → Option Value} {base : Heap}
/-! ### count_sets -/
def spCS (K : PySem.W.Frag) : Sp := fun vs H Q _ => ∃ (a : Addr) (l : List Nat), vs = [.ref a] ∧ SqL K H a (vi l) ∧ l.length ≤ 9 ∧
  ∀ (H' : Hp) (p : Addr), Same H H' → H p = none → H' p = some (.lst (vi (weighs (List.replicate l.length 1)))) → Q (.ref p) H'
theorem rep_one (n : Nat) : (List.replicate n [V.int 1]).flatten = vi (List.replicate n 1) := by
  induction n with
  | zero => rfl
  | succ n ih =>
    rw [List.replicate_succ, List.flatten_cons, ih, List.replicate_succ]
    rfl
theorem scCS : FnScope ["pieces"] ["pieces"] (defScope sCS) := ⟨rfl, rfl, rfl, by decide +kernel, rfl, by decide +kernel, by decide +kernel⟩
theorem ok_cs {f fw : Addr} {fd fdw : FuncData} (F : Fun K "count_sets" "count_sets" sCS f fd) (FW : Fun K "weigh_sets" "weigh_sets" sWS fw fdw) (bW : Binds K fdw ["pieces"] []) (mW : mg "weigh_sets" = some (.ref fw)) (mL : mg "len" = none) :
    FnOk P w K mg base CX0 2 f fd ["pieces"] (spCS K) := by
  have GW : FnOk P w K mg base CX0 1 fw fdw ["pieces"] (spWS K) := ok_ws FW
  refine F.ok scCS (fun vs H Q E h => ?_) (fun cdv A outer s H vs Q E hr h => ?_)
  · obtain ⟨a, l, rfl, _⟩ := h
    rfl
  · obtain ⟨a, l, rfl, hS, hlen, k⟩ := h
    refine ⟨_, pss_one (ps_ret (pe_call GW hr rfl mW FW.kp bW .nil pass0 (pa_cons (pe_op op_rep (pe_lst (pa_cons pe_int pa_nil)) (pe_callB call_len_seq (by rfl) mL PySem.boot_len (pa_cons (pv 0) pa_nil))) pa_nil))), ?_⟩
    refine ⟨(by show 1 ≤ sizeLine; decide), fun q hq => ?_⟩
    refine ⟨_, rfl, a, _, rfl, .inl ((same_new hq).seq hS), ?_⟩
    refine ⟨q, _, _, rfl, rfl, upd_same, by rw [vi_length]; omega, by rw [vi_length]; omega, ?_, fun p hp => ?_⟩
    · rw [vi_length]
      show 1 * ((l.length : Nat) : Int).toNat ≤ sizeLine
      exact Nat.le_of_lt (small_line (by omega))
    · have e : ((((vi l).length : Nat) : Int)).toNat = l.length := by rw [vi_length]; omega
      rw [e, rep_one]
      have s1 : Same H (upd H q (.lst [V.int 1])) := same_new hq
      have hp0 : H p = none := s1.free hp
      refine ⟨p, List.replicate l.length 1, rfl, SqL.of upd_same, by rw [List.length_replicate]; exact hlen, fun H' r s2 hr0 hr1 => ?_⟩
      have s3 : Same H (upd (upd H q (.lst [V.int 1])) p (.lst (vi (List.replicate l.length 1)))) := same_put s1 hp0
      exact k H' r (s3.trans s2) (s3.free hr0) hr1
/-! ### best_set -/
def keyOf (l : List Nat) (s : Nat) : List Int := [(Kv351.weigh l s : Int), (Kv351.size l s : Int), (s : Int)]
def spBS (K : PySem.W.Frag) : Sp := fun vs H Q _ => ∃ (a : Addr) (l : List Nat) (w : Nat), vs = [.ref a, .int (w : Int)] ∧ SqL K H a (vi l) ∧ l.length ≤ 9 ∧ w ≤ l.sum ∧
  ∀ (H' : Hp) (p : Addr) (s : Nat), Same H H' → H p = none → Kv351.best l w = some s → H' p = some (.tup ((keyOf l s).map V.int)) → Q (.ref p) H'
theorem lex_key {l : List Nat} {s t : Nat} (h : HT.lexLt (keyOf l s) (keyOf l t) = false) : Kv351.lighter l s t = false := by
  rw [lighter_false]
  unfold keyOf at h
  rw [HT.lexLt_cons] at h
  by_cases e1 : (Kv351.weigh l s : Int) = (Kv351.weigh l t : Int)
  · rw [if_pos e1, HT.lexLt_cons] at h
    by_cases e2 : (Kv351.size l s : Int) = (Kv351.size l t : Int)
    · rw [if_pos e2, HT.lexLt_cons] at h
      by_cases e3 : (s : Int) = (t : Int)
      · omega
      · rw [if_neg e3] at h
        simp only [decide_eq_false_iff_not] at h
        omega
    · rw [if_neg e2] at h
      simp only [decide_eq_false_iff_not] at h
      omega
  · rw [if_neg e1] at h
    simp only [decide_eq_false_iff_not] at h
    omega
/-- the sets that weigh enough, of the first so many -/
def enough (l : List Nat) (w i : Nat) : List Nat := (List.range i).filter fun s => decide (w ≤ Kv351.weigh l s)
theorem enough_succ (l : List Nat) (w i : Nat) : enough l w (i + 1) = if w ≤ Kv351.weigh l i then enough l w i ++ [i] else enough l w i := by
  unfold enough
  rw [List.range_succ, List.filter_append]
  by_cases h : w ≤ Kv351.weigh l i
  · simp [h]
  · simp [h]
theorem enough_length (l : List Nat) (w i : Nat) : (enough l w i).length ≤ i := by
  have := List.length_filter_le (fun s => decide (w ≤ Kv351.weigh l s)) (List.range i)
  rw [List.length_range] at this
  exact this
theorem mem_enough {l : List Nat} {w i s : Nat} : s ∈ enough l w i ↔ s < i ∧ w ≤ Kv351.weigh l s := by
  unfold enough
  rw [List.mem_filter, List.mem_range, decide_eq_true_eq]
/-- tuples stand at ps, with the numbers ks -/
def Tups (H : Hp) (ps : List Addr) (ks : List (List Int)) : Prop := ps.length = ks.length ∧ ∀ (i : Nat) (p : Addr) (k : List Int), ps[i]? = some p → ks[i]? = some k → H p = some (.tup (k.map V.int))
theorem Tups.snoc {H H' : Hp} {ps : List Addr} {ks : List (List Int)} {p : Addr} {k : List Int} (t : Tups H ps ks) (s : ∀ b xs, H b = some (.tup xs) → H' b = some (.tup xs)) (hp : H' p = some (.tup (k.map V.int))) : Tups H' (ps ++ [p]) (ks ++ [k]) := by
  refine ⟨by rw [List.length_append, List.length_append, t.1]; rfl, fun i q x hq hx => ?_⟩
  by_cases hi : i < ps.length
  · rw [List.getElem?_append_left hi] at hq
    rw [List.getElem?_append_left (by rw [← t.1]; exact hi)] at hx
    exact s _ _ (t.2 i q x hq hx)
  · have hl : i < (ps ++ [p]).length := (List.getElem?_eq_some_iff.mp hq).1
    rw [List.length_append, List.length_singleton] at hl
    have e : i = ps.length := by omega
    subst e
    rw [List.getElem?_append_right (Nat.le_refl _), Nat.sub_self] at hq
    rw [t.1, List.getElem?_append_right (Nat.le_refl _), Nat.sub_self] at hx
    have e1 : p = q := Option.some.inj hq
    have e2 : k = x := Option.some.inj hx
    rw [← e1, ← e2]
    exact hp
theorem scBS : FnScope ["pieces", "least", "weights", "counts", "s"] ["pieces", "least"] (defScope sBS) := ⟨rfl, rfl, rfl, by decide +kernel, rfl, by decide +kernel, by decide +kernel⟩
theorem ok_bs {f fw fc : Addr} {fd fdw fdc : FuncData} (F : Fun K "best_set" "best_set" sBS f fd) (FW : Fun K "weigh_sets" "weigh_sets" sWS fw fdw) (bW : Binds K fdw ["pieces"] []) (mW : mg "weigh_sets" = some (.ref fw))
    (FC : Fun K "count_sets" "count_sets" sCS fc fdc) (bC : Binds K fdc ["pieces"] []) (mC : mg "count_sets" = some (.ref fc)) (mL : mg "len" = none) (mR : mg "range" = none) (mM : mg "min" = none) :
    FnOk P w K mg base CX0 3 f fd ["pieces", "least"] (spBS K) := by
  have GW : FnOk P w K mg base CX0 1 fw fdw ["pieces"] (spWS K) := ok_ws FW
  have GC : FnOk P w K mg base CX0 2 fc fdc ["pieces"] (spCS K) := ok_cs FC FW bW mW mL
  refine F.ok scBS (fun vs H Q E h => ?_) (fun cdv A outer s H vs Q E hr h => ?_)
  · obtain ⟨a, l, w, rfl, _⟩ := h
    rfl
  · obtain ⟨a, l, w, rfl, hS, hlen, hw, k⟩ := h
    have hr1 : Room 1 _ := hr.mono (by decide)
    refine ⟨_, pss_cons (ps_set (i := 2) scBS.nd rfl (Or.inr rfl) (pe_call GW hr1 rfl mW FW.kp bW .nil pass0 (pa_cons (pv 0) pa_nil)))
      (pss_cons (ps_set (i := 3) scBS.nd rfl (Or.inr rfl) (pe_call GC hr rfl mC FC.kp bC .nil pass0 (pa_cons (pv 0) pa_nil)))
      (pss_one (ps_ret (pe_callB (cr_minT rfl hr.units) (by rfl) mM PyProof.Rows.boot_min (pa_cons
        (pe_lc (own := [("s", 4)]) rfl scBS.nd (pi_range1 rfl mR (pa_cons (pe_callB call_len_seq (by rfl) mL PySem.boot_len (pa_cons (pv 2) pa_nil)) pa_nil)) (blkOk_by rfl)
          (fun _ _ _ _ _ => pg_name (i := 4) scBS.nd rfl (Or.inl rfl))
          (fun _ _ _ _ _ => pts_one (pt_cmpR op_ge (pe_ix (ix_listK (K := K) rfl) (pv 2) (pv 4) (fun _ _ => rfl)) (pv 1) (nomark _)))
          (fun _ _ _ _ _ => pe_tup (pa_cons (pe_ix (ix_listK (K := K) rfl) (pv 2) (pv 4) (fun _ _ => rfl)) (pa_cons (pe_ix (ix_listK (K := K) rfl) (pv 3) (pv 4) (fun _ _ => rfl)) (pa_cons (pv 4) pa_nil))))) pa_nil))))), ?_⟩
    -- weights = weigh_sets(pieces)
    refine ⟨_, rfl, a, l, rfl, hS, hlen, fun H1 p1 s1 n1 h1 => ?_⟩
    -- counts = count_sets(pieces)
    refine ⟨_, rfl, a, l, rfl, s1.seq hS, hlen, fun H2 p2 s2 n2 h2 => ?_⟩
    have hp1 : H2 p1 = some (.lst (vi (weighs l))) := s2 _ _ h1
    -- the comprehension
    refine ⟨_, rfl, p1, _, rfl, .inl (SqL.of hp1), _, rfl, by rw [vi_length]; omega, ?_, fun D hD => ?_⟩
    · rw [vi_length]
      have := weighs_small hlen
      omega
    have en : (((vi (weighs l)).length : Nat) : Int).toNat = 2 ^ l.length := by
      rw [vi_length, weighs_length]; exact Int.toNat_natCast _
    rw [en]
    have hpow : 2 ^ l.length ≤ 512 := by
      have := weighs_small hlen
      rwa [weighs_length] at this
    have s12 : Same H H2 := s1.trans s2
    refine lc_range (n := 2 ^ l.length) (lo := 0) (fun i H' => Same H2 H' ∧ ∃ ps : List Addr, H' D = some (.lst (ps.map V.ref)) ∧ (∀ p ∈ ps, H2 p = none) ∧ Tups H' ps ((enough l w i).map (keyOf l)))
      ⟨same_new hD, [], upd_same, (fun p hp => nomatch hp), rfl, fun i p k hp => by simp at hp⟩ (fun i H' hi q => ?_) fun H' q => ?_
    · obtain ⟨s3, ps, hD3, new3, t3⟩ := q
      have w1 : (vi (weighs l))[i]? = some (V.int (Kv351.weigh l i : Int)) := vi_get (weighs_get hi)
      have w2 : (vi (weighs (List.replicate l.length 1)))[i]? = some (V.int (Kv351.size l i : Int)) := by
        rw [size_eq]
        exact vi_get (weighs_get (by rw [List.length_replicate]; exact hi))
      have ei : (0 : Int) + (i : Int) = ((i : Nat) : Int) := by omega
      refine ⟨rfl, _, rfl, _, rfl, p1, _, _, _, rfl, rfl, SqL.of (s3 _ _ hp1), at_of ei w1, _, rfl, _, _, rfl, rfl, _, rfl, ite2 (fun hc => ?_) (fun hc => ?_)⟩
      · simp only [decide_eq_true_eq] at hc
        refine ⟨_, rfl, _, rfl, p1, _, _, _, rfl, rfl, SqL.of (s3 _ _ hp1), at_of ei w1, _, rfl, _, rfl, p2, _, _, _, rfl, rfl, SqL.of (s3 _ _ h2), at_of ei w2, _, rfl, (by show 3 ≤ sizeLine; decide), fun p hp => ?_⟩
        have hpD : D ≠ p := ne_of_none hD3 hp
        refine ⟨_, Eq.trans (upd_ne hpD) hD3, ?_, same_put (same_put s3 (s3.free hp)) hD, ps ++ [p], ?_, ?_, ?_⟩
        · rw [List.length_map, t3.1, List.length_map]
          exact small_line (Nat.le_trans (enough_length l w i) (by omega))
        · rw [upd_same, List.map_append]
          rfl
        · intro q hq
          rcases List.mem_append.mp hq with hq | hq
          · exact new3 q hq
          · rw [List.mem_singleton.mp hq]
            exact s3.free hp
        · rw [enough_succ, if_pos (by omega), List.map_append]
          refine t3.snoc (fun b xs e => ?_) ?_
          · rw [upd_ne (fun z => by rw [z, hD3] at e; cases e), upd_ne (ne_of_none e hp)]
            exact e
          · rw [upd_ne (fun z => hpD z.symm), upd_same, ei]
            rfl
      · simp only [decide_eq_true_eq] at hc
        refine ⟨s3, ps, hD3, new3, ?_⟩
        rw [enough_succ, if_neg (by omega)]
        exact t3
    · obtain ⟨s3, ps, hD3, new3, t3⟩ := q
      obtain ⟨t0, ht0, ht1, ht2⟩ := best_some hw
      have hmem : t0 ∈ enough l w (2 ^ l.length) := mem_enough.mpr ⟨ht1, ht2⟩
      have hlk : ((enough l w (2 ^ l.length)).map (keyOf l)).length = (enough l w (2 ^ l.length)).length := List.length_map _
      refine ⟨D, ps, _, rfl, SqL.of hD3, ?_, t3.1, fun i p k hp hk => SqT.of (t3.2 i p k hp hk), fun j p kj hp hk hmin => ?_⟩
      · rw [t3.1, hlk]
        exact List.length_pos_of_mem hmem
      · rw [List.getElem?_map] at hk
        cases e : (enough l w (2 ^ l.length))[j]? with
        | none => rw [e] at hk; cases hk
        | some s0 =>
          rw [e] at hk
          have ek : keyOf l s0 = kj := Option.some.inj hk
          have hs0 := mem_enough.mp (List.mem_of_getElem? e)
          have hb : Kv351.best l w = some s0 := best_is hs0.1 hs0.2 fun s' h1 h2 => by
            obtain ⟨i, hi, he⟩ := List.getElem_of_mem (mem_enough.mpr ⟨h1, h2⟩ : s' ∈ enough l w (2 ^ l.length))
            have := hmin i (keyOf l s') (by rw [List.getElem?_map, List.getElem?_eq_getElem hi, he]; rfl)
            rw [← ek] at this
            exact lex_key this
          refine k H' p s0 (s12.trans s3) (s12.free (new3 p (List.mem_of_getElem? hp))) hb ?_
          rw [ek]
          exact t3.2 j p kj hp (by rw [List.getElem?_map, e, ← ek]; rfl)
end
end BW
set_option Elab.async false
set_option linter.all false
set_option maxRecDepth 100000
set_option maxHeartbeats 4000000
namespace BW
open PySem PySem.Spec PyProof.Rows L2
section
variable {P : Program} {w : World} {K : PySem.W.Frag} {mg : Str → Option Value} {base : Heap}
theorem take_sum_succ {l : List Nat} {i x : Nat} (h : l[i]? = some x) : (l.take (i + 1)).sum = (l.take i).sum + x := by
  rw [take_snoc h, List.sum_append]
  simp
/-! ### fewest_pieces -/
def spFP (K : PySem.W.Frag) : Sp := fun vs H Q _ => ∃ (a : Addr) (l : List Nat) (w : Nat), vs = [.ref a, .int (w : Int)] ∧ SqL K H a (vi l) ∧ l.length ≤ 9 ∧ w ≤ l.sum ∧
  ∀ (H' : Hp) (p k : Nat), Same H H' → H p = none → Kv351.fewest l w = some k → H' p = some (.tup [.int (k : Int), .int ((((desc l).take k).sum : Nat) : Int)]) → Q (.ref p) H'
theorem scFP : FnScope ["pieces", "least", "count", "weight", "grams"] ["pieces", "least"] (defScope sFP) := ⟨rfl, rfl, rfl, by decide +kernel, rfl, by decide +kernel, by decide +kernel⟩
theorem ok_fp {f : Addr} {fd : FuncData} (F : Fun K "fewest_pieces" "fewest_pieces" sFP f fd) (mS : mg "sorted" = none) : FnOk P w K mg base CX0 1 f fd ["pieces", "least"] (spFP K) := by
  refine F.ok scFP (fun vs H Q E h => ?_) (fun cdv A outer s H vs Q E hr h => ?_)
  · obtain ⟨a, l, w, rfl, _⟩ := h
    rfl
  · obtain ⟨a, l, w, rfl, hS, hlen, hw, k⟩ := h
    refine ⟨_, pss_cons (ps_set (i := 2) scFP.nd rfl (Or.inl rfl) pe_int) (pss_cons (ps_set (i := 3) scFP.nd rfl (Or.inl rfl) pe_int)
      (pss_cons (ps_for PassesOwn.never rfl (pi_list (pe_sortedD rfl mS (pa_cons (pv 0) pa_nil) PyProof.Rows.boot_sorted)) (pg_name (i := 4) scFP.nd rfl (Or.inl rfl))
        (pss_cons (ps_if (pt_cmpR op_ge (pv 3) (pv 1) (nomark _)) (pss_one ps_break) pss_nil)
        (pss_cons (ps_set (i := 2) scFP.nd rfl (Or.inl rfl) (pe_op op_add (pv 2) pe_int))
        (pss_one (ps_set (i := 3) scFP.nd rfl (Or.inl rfl) (pe_op op_add (pv 3) (pv 4)))))))
      (pss_one (ps_ret (pe_tup (pa_cons (pv 2) (pa_cons (pv 3) pa_nil))))))), ?_⟩
    refine ⟨_, rfl, a, _, rfl, hS, by rw [List.length_map]; omega, fun ns p hperm hsort hp => ?_⟩
    have en : ns.map V.int = vi (desc l) := by
      rw [desc_ints hperm hsort]
      rfl
    rw [en]
    have fin : ∀ (j : Nat) (v : Option V) (H' : Hp), Same H H' → j ≤ l.length → (∀ i, i < j → ((desc l).take i).sum < w) → w ≤ ((desc l).take j).sum →
        tRet (tTup (tCons (tVar 2) (tCons (tVar 3) tNil))) { nx := fun _ H' => Q .non H', rt := Q } [some (.ref a), some (.int (w : Int)), some (.int (j : Int)), some (.int ((((desc l).take j).sum : Nat) : Int)), v] H' := fun j v H' s1 h1 h2 h3 => by
      refine ⟨_, rfl, _, rfl, (by show 2 ≤ sizeLine; decide), fun r hr => ?_⟩
      exact k _ r j (same_put s1 (s1.free hr)) (s1.free hr) (fewest_is h1 h3 h2) upd_same
    refine ⟨p, rfl, ⟨_, SqL.of upd_same⟩, for_list (K := K) (a := p) (xs := vi (desc l)) (fun i σ H' => ∃ v : Option V, σ = [some (.ref a), some (.int (w : Int)), some (.int (i : Int)), some (.int ((((desc l).take i).sum : Nat) : Int)), v] ∧
        Same H H' ∧ H' p = some (.lst (vi (desc l))) ∧ ∀ j, j < i → ((desc l).take j).sum < w)
      ⟨none, rfl, same_new hp, upd_same, fun j hj => absurd hj (Nat.not_lt_zero _)⟩ (fun i σ H' _ ⟨_, _, _, h, _⟩ => SqL.of h) ?_ ?_⟩
    · rintro i y σ H' hi ⟨v, rfl, s1, hp1, hlow⟩
      obtain ⟨g, hg, rfl⟩ := vi_at hi
      have hil : i < l.length := by rw [← desc_length]; exact (List.getElem?_eq_some_iff.mp hg).1
      refine ⟨_, rfl, _, rfl, _, _, rfl, rfl, _, rfl, ite2 (fun hc => ?_) (fun hc => ?_)⟩
      · simp only [decide_eq_true_eq] at hc
        exact fin i _ H' s1 (Nat.le_of_lt hil) hlow (by omega)
      · simp only [decide_eq_true_eq] at hc
        refine ⟨_, rfl, _, _, rfl, rfl, _, rfl, _, rfl, _, _, rfl, rfl, some (.int (g : Int)), ?_, s1, hp1, fun j hj => ?_⟩
        · rw [take_sum_succ hg]
          have e : ((((desc l).take i).sum + g : Nat) : Int) = ((((desc l).take i).sum : Nat) : Int) + (g : Int) := by omega
          rw [e]
          rfl
        · by_cases hj' : j = i
          · subst hj'; omega
          · exact hlow j (by omega)
    · rintro σ H' ⟨v, rfl, s1, hp1, hlow⟩
      rw [vi_length, desc_length] at hlow ⊢
      refine fin l.length v H' s1 (Nat.le_refl _) hlow ?_
      rw [take_sum_all (desc_perm l)]
      exact hw
/-! ### most_pieces -/
def spMP (K : PySem.W.Frag) : Sp := fun vs H Q _ => ∃ (a : Addr) (l : List Nat) (w : Nat), vs = [.ref a, .int (w : Int)] ∧ SqL K H a (vi l) ∧ l.length ≤ 9 ∧
  ∀ (H' : Hp) (p : Addr), Same H H' → H p = none → H' p = some (.tup [.int ((Kv351.most l w : Nat) : Int), .int ((((asc l).take (Kv351.most l w)).sum : Nat) : Int)]) → Q (.ref p) H'
theorem scMP : FnScope ["pieces", "limit", "count", "weight", "grams"] ["pieces", "limit"] (defScope sMP) := ⟨rfl, rfl, rfl, by decide +kernel, rfl, by decide +kernel, by decide +kernel⟩
theorem ok_mp {f : Addr} {fd : FuncData} (F : Fun K "most_pieces" "most_pieces" sMP f fd) (mS : mg "sorted" = none) : FnOk P w K mg base CX0 1 f fd ["pieces", "limit"] (spMP K) := by
  refine F.ok scMP (fun vs H Q E h => ?_) (fun cdv A outer s H vs Q E hr h => ?_)
  · obtain ⟨a, l, w, rfl, _⟩ := h
    rfl
  · obtain ⟨a, l, w, rfl, hS, hlen, k⟩ := h
    refine ⟨_, pss_cons (ps_set (i := 2) scMP.nd rfl (Or.inl rfl) pe_int) (pss_cons (ps_set (i := 3) scMP.nd rfl (Or.inl rfl) pe_int)
      (pss_cons (ps_for PassesOwn.never rfl (pi_list (pe_callB cr_sorted (by rfl) mS PyProof.Rows.boot_sorted (pa_cons (pv 0) pa_nil))) (pg_name (i := 4) scMP.nd rfl (Or.inl rfl))
        (pss_cons (ps_if (pt_cmpR op_gt (pe_op op_add (pv 3) (pv 4)) (pv 1) (nomark _)) (pss_one ps_break) pss_nil)
        (pss_cons (ps_set (i := 2) scMP.nd rfl (Or.inl rfl) (pe_op op_add (pv 2) pe_int))
        (pss_one (ps_set (i := 3) scMP.nd rfl (Or.inl rfl) (pe_op op_add (pv 3) (pv 4)))))))
      (pss_one (ps_ret (pe_tup (pa_cons (pv 2) (pa_cons (pv 3) pa_nil))))))), ?_⟩
    refine ⟨_, rfl, a, _, rfl, hS, by rw [List.length_map]; omega, fun ns p hperm hsort hp => ?_⟩
    have en : ns.map V.int = vi (asc l) := by
      rw [asc_ints hperm hsort]
      rfl
    rw [en]
    have fin : ∀ (j : Nat) (v : Option V) (H' : Hp), Same H H' → j ≤ l.length → ((asc l).take j).sum ≤ w → (j < l.length → w < ((asc l).take (j + 1)).sum) →
        tRet (tTup (tCons (tVar 2) (tCons (tVar 3) tNil))) { nx := fun _ H' => Q .non H', rt := Q } [some (.ref a), some (.int (w : Int)), some (.int (j : Int)), some (.int ((((asc l).take j).sum : Nat) : Int)), v] H' := fun j v H' s1 h1 h2 h3 => by
      refine ⟨_, rfl, _, rfl, (by show 2 ≤ sizeLine; decide), fun r hr => ?_⟩
      have e := most_is h1 h2 h3
      refine k _ r (same_put s1 (s1.free hr)) (s1.free hr) ?_
      rw [upd_same, e]
    refine ⟨p, rfl, ⟨_, SqL.of upd_same⟩, for_list (K := K) (a := p) (xs := vi (asc l)) (fun i σ H' => ∃ v : Option V, σ = [some (.ref a), some (.int (w : Int)), some (.int (i : Int)), some (.int ((((asc l).take i).sum : Nat) : Int)), v] ∧
        Same H H' ∧ H' p = some (.lst (vi (asc l))) ∧ ((asc l).take i).sum ≤ w)
      ⟨none, rfl, same_new hp, upd_same, Nat.zero_le _⟩ (fun i σ H' _ ⟨_, _, _, h, _⟩ => SqL.of h) ?_ ?_⟩
    · rintro i y σ H' hi ⟨v, rfl, s1, hp1, hlow⟩
      obtain ⟨g, hg, rfl⟩ := vi_at hi
      have hil : i < l.length := by rw [← asc_length]; exact (List.getElem?_eq_some_iff.mp hg).1
      have hs := take_sum_succ hg
      refine ⟨_, rfl, _, rfl, _, _, rfl, rfl, _, rfl, _, _, rfl, rfl, _, rfl, ite2 (fun hc => ?_) (fun hc => ?_)⟩
      · simp only [decide_eq_true_eq] at hc
        exact fin i _ H' s1 (Nat.le_of_lt hil) hlow (fun _ => by omega)
      · simp only [decide_eq_true_eq] at hc
        refine ⟨_, rfl, _, _, rfl, rfl, _, rfl, _, rfl, _, _, rfl, rfl, some (.int (g : Int)), ?_, s1, hp1, by omega⟩
        rw [hs]
        have e : ((((asc l).take i).sum + g : Nat) : Int) = ((((asc l).take i).sum : Nat) : Int) + (g : Int) := by omega
        rw [e]
        rfl
    · rintro σ H' ⟨v, rfl, s1, hp1, hlow⟩
      rw [vi_length, asc_length] at hlow ⊢
      exact fin l.length v H' s1 (Nat.le_refl _) hlow fun h => absurd h (Nat.lt_irrefl _)
/-! ### part_by_set -/
def spPS (K : PySem.W.Frag) : Sp := fun vs H Q _ => ∃ (a : Addr) (l : List Nat) (s : Nat), vs = [.ref a, .int (s : Int)] ∧ SqL K H a (vi l) ∧ l.length ≤ 9 ∧
  ∀ (H' : Hp) (p p1 p2 : Addr), Same H H' → H p = none → H p1 = none → H p2 = none → p1 ≠ p2 → H' p = some (.tup [.ref p1, .ref p2]) → H' p1 = some (.lst (vi (Kv351.chosen l s))) → H' p2 = some (.lst (vi (Kv351.without l s))) → Q (.ref p) H'
theorem scPS : FnScope ["pieces", "chosen", "inside", "outside", "rest", "grams"] ["pieces", "chosen"] (defScope sPS) := ⟨rfl, rfl, rfl, by decide +kernel, rfl, by decide +kernel, by decide +kernel⟩
theorem ok_ps {f : Addr} {fd : FuncData} (F : Fun K "part_by_set" "part_by_set" sPS f fd) : FnOk P w K mg base CX0 1 f fd ["pieces", "chosen"] (spPS K) := by
  refine F.ok scPS (fun vs H Q E h => ?_) (fun cdv A outer s H vs Q E hr h => ?_)
  · obtain ⟨a, l, w, rfl, _⟩ := h
    rfl
  · obtain ⟨a, l, s0, rfl, hS, hlen, k⟩ := h
    refine ⟨_, pss_cons (ps_set (i := 2) scPS.nd rfl (Or.inl rfl) (pe_lst pa_nil)) (pss_cons (ps_set (i := 3) scPS.nd rfl (Or.inl rfl) (pe_lst pa_nil)) (pss_cons (ps_set (i := 4) scPS.nd rfl (Or.inl rfl) (pv 1))
      (pss_cons (ps_for PassesOwn.never rfl (pi_list (pv 0)) (pg_name (i := 5) scPS.nd rfl (Or.inl rfl))
        (pss_cons (ps_if (pt_cmpR op_eq (pe_op op_mod (pv 4) pe_int) pe_int (nomark _))
          (pss_one (ps_expr (pe_bm PySem.F.plainAttrs_list PySem.F.slot_list_append PySem.F.type_list_append mt_append (pv 2) (pa_cons (pv 5) pa_nil))))
          (pss_one (ps_expr (pe_bm PySem.F.plainAttrs_list PySem.F.slot_list_append PySem.F.type_list_append mt_append (pv 3) (pa_cons (pv 5) pa_nil)))))
        (pss_one (ps_set (i := 4) scPS.nd rfl (Or.inl rfl) (pe_op op_fdiv (pv 4) pe_int)))))
      (pss_one (ps_ret (pe_tup (pa_cons (pv 2) (pa_cons (pv 3) pa_nil)))))))), ?_⟩
    refine ⟨Nat.zero_le _, fun p1 h1 => ⟨Nat.zero_le _, fun p2 h2 => ?_⟩⟩
    have s1 : Same H (upd H p1 (.lst [])) := same_new h1
    have h2' : H p2 = none := s1.free h2
    have ne : p1 ≠ p2 := ne_of_none upd_same h2
    have s2 : Same H (upd (upd H p1 (.lst [])) p2 (.lst [])) := same_put s1 h2'
    refine ⟨_, rfl, _, rfl, a, rfl, ⟨_, s2.seq hS⟩, for_list (K := K) (a := a) (xs := vi l) (fun i σ H' => ∃ v : Option V, σ = [some (.ref a), some (.int (s0 : Int)), some (.ref p1), some (.ref p2), some (.int ((s0 / 2 ^ i : Nat) : Int)), v] ∧
        Same H H' ∧ H' p1 = some (.lst (vi (ins l s0 i))) ∧ H' p2 = some (.lst (vi (outs l s0 i))))
      ⟨none, by rw [Nat.pow_zero, Nat.div_one]; rfl, s2, by rw [upd_ne ne]; exact upd_same, upd_same⟩ (fun i σ H' _ ⟨_, _, s3, _⟩ => s3.seq hS) ?_ ?_⟩
    · rintro i y σ H' hi ⟨v, rfl, s3, q1, q2⟩
      obtain ⟨g, hg, rfl⟩ := vi_at hi
      have hil : i < l.length := (List.getElem?_eq_some_iff.mp hg).1
      have eg : l.getD i 0 = g := by simp [List.getD, hg]
      have next : ((s0 / 2 ^ i : Nat) : Int) / 2 = ((s0 / 2 ^ (i + 1) : Nat) : Int) := by
        rw [Nat.pow_succ, ← Nat.div_div_eq_div_mul]; omega
      have b1 : (vi (ins l s0 i)).length < sizeLine := small_line (by rw [vi_length]; have := ins_length_le l s0 i; omega)
      have b2 : (vi (outs l s0 i)).length < sizeLine := small_line (by rw [vi_length]; have := outs_length_le l s0 i; omega)
      refine ⟨_, rfl, _, _, rfl, rfl, (by show (0 : Int) < 2; decide), rfl, _, rfl, ite2 (fun hc => ?_) (fun hc => ?_)⟩
      · simp only [decide_eq_true_eq, V.int.injEq] at hc
        have hb : Kv351.has s0 i = true := (has_div s0 i).mp (by omega)
        refine ⟨_, rfl, .inl ⟨rfl, _, SqL.of q1⟩, _, rfl, p1, _, _, rfl, rfl, q1, b1, ?_⟩
        refine ⟨_, rfl, _, _, rfl, rfl, ⟨by decide, by decide⟩, some (.int (g : Int)), ?_, same_put s3 h1, ?_, ?_⟩
        · rw [← next]; rfl
        · rw [upd_same, ins_succ, if_pos hb, vi_append, eg]; rfl
        · rw [upd_ne ne.symm, outs_succ, if_pos hb]; exact q2
      · simp only [decide_eq_true_eq, V.int.injEq] at hc
        have hb : ¬ Kv351.has s0 i = true := fun e => hc (by have := (has_div s0 i).mpr e; omega)
        refine ⟨_, rfl, .inl ⟨rfl, _, SqL.of q2⟩, _, rfl, p2, _, _, rfl, rfl, q2, b2, ?_⟩
        refine ⟨_, rfl, _, _, rfl, rfl, ⟨by decide, by decide⟩, some (.int (g : Int)), ?_, same_put s3 h2', ?_, ?_⟩
        · rw [← next]; rfl
        · rw [upd_ne ne, ins_succ, if_neg hb]; exact q1
        · rw [upd_same, outs_succ, if_neg hb, vi_append, eg]; rfl
    · rintro σ H' ⟨v, rfl, s3, q1, q2⟩
      rw [vi_length, ins_all] at q1
      rw [vi_length, outs_all] at q2
      refine ⟨_, rfl, _, rfl, (by show 2 ≤ sizeLine; decide), fun p hp => ?_⟩
      have hp0 := s3.free hp
      exact k _ p p1 p2 (same_put s3 hp0) hp0 h1 h2' ne upd_same (by rw [upd_ne (ne_of_none q1 hp)]; exact q1) (by rw [upd_ne (ne_of_none q2 hp)]; exact q2)
end
end BW
set_option Elab.async false
set_option linter.all false
set_option maxRecDepth 100000
set_option maxHeartbeats 4000000
namespace BW
open PySem PySem.Spec PyProof.Rows L2
/-! ### heaviest_within -/
def leV (z : Int) : V → Bool
  | .int i => decide (i ≤ z)
  | _ => false
theorem filter_le (ws : List Nat) (n : Nat) : ((vi ws).filter (leV (n : Int))).map (fun v => v) = vi (ws.filter fun x => decide (x ≤ n)) := by
  rw [List.map_id']
  unfold vi
  induction ws with
  | nil => rfl
  | cons a l ih =>
    rw [List.map_cons, List.map_cons, List.filter_cons, List.filter_cons, ih]
    have e : leV (n : Int) (V.int (Int.ofNat a)) = decide (a ≤ n) := by
      show decide (((a : Nat) : Int) ≤ (n : Int)) = decide (a ≤ n)
      by_cases h : a ≤ n
      · rw [decide_eq_true h, decide_eq_true (by omega)]
      · rw [decide_eq_false h, decide_eq_false (by omega)]
    rw [e]
    split <;> rfl
section
variable {P : Program} {w : World} {K : PySem.W.Frag} {mg : Str → Option Value} {base : Heap}
def spHW (K : PySem.W.Frag) : Sp := fun vs H Q _ => ∃ (a : Addr) (l : List Nat) (n : Nat), vs = [.ref a, .int (n : Int)] ∧ SqL K H a (vi l) ∧ l.length ≤ 9 ∧
  ∀ H' : Hp, Same H H' → Q (.int ((Kv351.under l n : Nat) : Int)) H'
theorem scHW : FnScope ["pieces", "limit", "weight"] ["pieces", "limit"] (defScope sHW) := ⟨rfl, rfl, rfl, by decide +kernel, rfl, by decide +kernel, by decide +kernel⟩
theorem ok_hw {f fw : Addr} {fd fdw : FuncData} (F : Fun K "heaviest_within" "heaviest_within" sHW f fd) (FW : Fun K "weigh_sets" "weigh_sets" sWS fw fdw) (bW : Binds K fdw ["pieces"] []) (mW : mg "weigh_sets" = some (.ref fw)) (mM : mg "max" = none) :
    FnOk P w K mg base CX0 2 f fd ["pieces", "limit"] (spHW K) := by
  have GW : FnOk P w K mg base CX0 1 fw fdw ["pieces"] (spWS K) := ok_ws FW
  refine F.ok scHW (fun vs H Q E h => ?_) (fun cdv A outer s H vs Q E hr h => ?_)
  · obtain ⟨a, l, n, rfl, _⟩ := h
    rfl
  obtain ⟨a, l, n, rfl, hS, hlen, k⟩ := h
  refine ⟨_, pss_one (ps_ret (pe_callB (cr_max rfl) (by rfl) mM PyProof.Rows.boot_max (pa_cons
      (pe_lc (own := [("weight", 2)]) rfl scHW.nd (pi_list (pe_call GW hr rfl mW FW.kp bW .nil pass0 (pa_cons (pv 0) pa_nil))) (blkOk_by rfl) (fun _ _ _ _ _ => pg_name (i := 2) scHW.nd rfl (Or.inl rfl))
        (fun _ _ _ _ _ => pts_one (pt_cmpR op_le (pv 2) (pv 1) (nomark _))) (fun _ _ _ _ _ => pv 2)) pa_nil))), ?_⟩
  refine ⟨_, rfl, a, l, rfl, hS, hlen, fun H1 q s1 n0 h1 => ?_⟩
  have hw := weighs_small hlen
  refine ⟨q, rfl, ⟨_, SqL.of h1⟩, fun D hD => ?_⟩
  refine lc_fm (K := K) (xs := vi (weighs l)) (leV (n : Int)) (fun v => v) (SqL.of h1) hD (small_line (by rw [vi_length]; omega)) (fun x H2 kk kk' hx2 s2 g1 g2 => ?_) fun H2 s2 hD2 => ?_
  · obtain ⟨z, _, rfl⟩ := vi_mem hx2
    refine ⟨rfl, _, rfl, _, rfl, _, _, rfl, rfl, _, rfl, ite2 (fun hz => ?_) (fun hz => ?_)⟩
    · exact ⟨_, rfl, g1 hz⟩
    · exact g2 (Bool.eq_false_iff.mpr hz)
  · rw [filter_le] at hD2
    have h0m : 0 ∈ (weighs l).filter fun x => decide (x ≤ n) := by
      rw [List.mem_filter]
      refine ⟨?_, by simp⟩
      rw [← weigh_zero l]
      exact List.mem_of_getElem? (weighs_get (Nat.two_pow_pos _))
    refine ⟨D, ((weighs l).filter fun x => decide (x ≤ n)).map Int.ofNat, rfl, SqL.of hD2, ?_, fun m hm hmax => ?_⟩
    · rw [List.length_map]
      exact List.length_pos_of_mem h0m
    · obtain ⟨y, hy, rfl⟩ := List.mem_map.mp hm
      obtain ⟨hy1, hy2⟩ := List.mem_filter.mp hy
      have hu : Kv351.under l n = y := under_is hy1 (by simpa using hy2) fun z hz hzn => by
        have := hmax (Int.ofNat z) (List.mem_map.mpr ⟨z, List.mem_filter.mpr ⟨hz, by simpa using hzn⟩, rfl⟩)
        exact Int.ofNat_le.mp this
      have h := k H2 (s1.trans s2)
      rw [hu] at h
      exact h
/-! ### weigh_row -/
def spWR (K : PySem.W.Frag) : Sp := fun vs H Q _ => ∃ (a : Addr) (l : List Nat) (w : Nat), vs = [.ref a, .int (w : Int)] ∧ H a = some (.lst (vi l)) ∧ l.length ≤ 9 ∧ 1 ≤ w ∧
  ∀ (H' : Hp) (p : Addr), Same H H' → H p = none → H' p = some (.lst (vi (Kv351.row w 9 l))) → Q (.ref p) H'
theorem scWR : FnScope ["pieces", "wanted", "row", "left", "found"] ["pieces", "wanted"] (defScope sWR) := ⟨rfl, rfl, rfl, by decide +kernel, rfl, by decide +kernel, by decide +kernel⟩
theorem ok_wr {f fb fp : Addr} {fd fdb fdp : FuncData} (F : Fun K "weigh_row" "weigh_row" sWR f fd) (FB : Fun K "best_set" "best_set" sBS fb fdb) (bB : Binds K fdb ["pieces", "least"] []) (mB : mg "best_set" = some (.ref fb))
    (GB : FnOk P w K mg base CX0 3 fb fdb ["pieces", "least"] (spBS K)) (FP : Fun K "part_by_set" "part_by_set" sPS fp fdp) (bP : Binds K fdp ["pieces", "chosen"] []) (mP : mg "part_by_set" = some (.ref fp)) (mS : mg "sum" = none) :
    FnOk P w K mg base CX0 4 f fd ["pieces", "wanted"] (spWR K) := by
  have GP : FnOk P w K mg base CX0 1 fp fdp ["pieces", "chosen"] (spPS K) := ok_ps FP
  refine F.ok scWR (fun vs H Q E h => ?_) (fun cdv A outer s H vs Q E hr h => ?_)
  · obtain ⟨a, l, w, rfl, _⟩ := h
    rfl
  obtain ⟨a, l, w, rfl, hA, hlen, hw1, k⟩ := h
  have hr1 : Room 1 _ := hr.mono (by decide)
  refine ⟨_, pss_cons (ps_set (i := 2) scWR.nd rfl (Or.inl rfl) (pe_lst pa_nil))
    (pss_cons (ps_set (i := 3) scWR.nd rfl (Or.inl rfl) (pv 0))
    (pss_cons (ps_while PassesOwn.never (pt_cmpR op_ge (pe_callB (cr_sum rfl) (by rfl) mS PyProof.Rows.boot_sum (pa_cons (pv 3) pa_nil)) (pv 1) (nomark _))
      (pss_cons (ps_set (i := 4) scWR.nd rfl (Or.inl rfl) (pe_call GB hr rfl mB FB.kp bB .nil pass0 (pa_cons (pv 3) (pa_cons (pv 1) pa_nil))))
      (pss_cons (ps_expr (pe_bm PySem.F.plainAttrs_list PySem.F.slot_list_append PySem.F.type_list_append mt_append (pv 2) (pa_cons (pe_ix ix_tup (pv 4) pe_int (fun _ _ => rfl)) pa_nil)))
      (pss_one (ps_set (i := 3) scWR.nd rfl (Or.inl rfl) (pe_ix ix_tup (pe_call GP hr1 rfl mP FP.kp bP .nil pass0 (pa_cons (pv 3) (pa_cons (pe_ix ix_tup (pv 4) pe_int (fun _ _ => rfl)) pa_nil))) pe_int (fun _ _ => rfl)))))))
    (pss_one (ps_ret (pv 2))))), ?_⟩
  refine ⟨Nat.zero_le _, fun r hr0 => ⟨_, rfl, ?_⟩⟩
  have nar : a ≠ r := ne_of_none hA hr0
  refine while_by (fun σ H' => ∃ (b : Addr) (m acc : List Nat) (n : Nat) (v : Option V), σ = [some (.ref a), some (.int (w : Int)), some (.ref r), some (.ref b), v] ∧ Same H H' ∧ b ≠ r ∧ H' r = some (.lst (vi acc)) ∧ H' b = some (.lst (vi m)) ∧
      m.length ≤ n ∧ acc.length + n = 9 ∧ acc ++ Kv351.row w n m = Kv351.row w 9 l)
    (fun (_ : L2.St) (H' : Hp) => match H' r with
      | some (.lst xs) => 10 - xs.length
      | _ => 0) ⟨a, l, [], 9, none, rfl, same_new hr0, nar, upd_same, Eq.trans (upd_ne nar) hA, hlen, rfl, rfl⟩ ?_ ?_
  · rintro σ H1 ⟨b, m, acc, n, v, rfl, s1, nbr, hr1', hb1, hmn, hacc, hrow⟩
    refine ⟨_, rfl, b, m.map Int.ofNat, rfl, SqL.of hb1, _, rfl, _, _, rfl, rfl, _, rfl, ite2 (fun hc => ?_) (fun hc => ?_)⟩
    · simp only [decide_eq_true_eq, sum_ints] at hc
      refine ⟨_, rfl, _, rfl, b, m, w, rfl, SqL.of hb1, by omega, by omega, fun H2 p0 s0 s2 n0 hbest h2 => ?_⟩
      obtain ⟨n', rfl, hrs, hlen'⟩ := row_some hw1 hbest hmn
      have hr2 : H2 r = some (.lst (vi acc)) := s2 _ _ hr1'
      have np0 : p0 ≠ r := fun e => by rw [e, hr1'] at n0; cases n0
      refine ⟨_, rfl, .inl ⟨rfl, _, SqL.of hr2⟩, _, rfl, p0, _, _, _, rfl, rfl, SqT.of h2, at_of (j := 0) rfl rfl, r, _, _, rfl, rfl, hr2, small_line (by rw [vi_length]; omega), ?_⟩
      have ea : vi acc ++ [V.int ((Kv351.weigh m s0 : Nat) : Int)] = vi (acc ++ [Kv351.weigh m s0]) := by rw [vi_append]; rfl
      refine ⟨_, rfl, _, rfl, p0, _, _, _, rfl, rfl, SqT.of (Eq.trans (upd_ne np0) h2), at_of (j := 2) rfl rfl, b, m, s0, rfl, SqL.of (Eq.trans (upd_ne nbr) (s2 _ _ hb1)), by omega, fun H3 q q1 q2 s3 m0 m1 m2 ne h3 h31 h32 => ?_⟩
      have hr3 : H3 r = some (.lst (vi (acc ++ [Kv351.weigh m s0]))) := s3 _ _ (by rw [upd_same]; exact congrArg (fun z => some (HO.lst z)) ea)
      have s123 : Same H H3 := (same_put (s1.trans s2) hr0).trans s3
      refine ⟨q, _, _, _, rfl, rfl, SqT.of h3, at_of (j := 1) rfl rfl, ⟨q2, Kv351.without m s0, acc ++ [Kv351.weigh m s0], n', some (.ref p0), rfl, s123, ?_, hr3, h32, hlen', ?_, ?_⟩, ?_⟩
      · intro e
        rw [e, upd_same] at m2
        cases m2
      · rw [List.length_append, List.length_singleton]; omega
      · rw [List.append_assoc, ← hrow, hrs]
        rfl
      · show (match H3 r with
          | some (.lst xs) => 10 - xs.length
          | _ => 0) < (match H1 r with
          | some (.lst xs) => 10 - xs.length
          | _ => 0)
        rw [hr3, hr1']
        show 10 - (vi (acc ++ [Kv351.weigh m s0])).length < 10 - (vi acc).length
        rw [vi_length, vi_length, List.length_append, List.length_singleton]
        omega
    · simp only [decide_eq_true_eq, sum_ints] at hc
      have e : Kv351.row w n m = [] := row_none (by omega)
      rw [e, List.append_nil] at hrow
      exact ⟨_, rfl, k H1 r s1 hr0 (by rw [hr1', hrow])⟩
  · rintro σ H2 Q1 Q2 hQ ⟨v, e1, p, ys, e3, h3, v2, e2, i, j, e4, e5, b, e6, hq6⟩
    exact ⟨v, e1, p, ys, e3, h3, v2, e2, i, j, e4, e5, b, e6, hQ _ _ hq6⟩
end
end BW
set_option Elab.async false
set_option linter.all false
set_option maxRecDepth 100000
set_option maxHeartbeats 4000000
namespace BW
open PySem PySem.Spec PyProof.Rows L2
abbrev sInit : Stmt := inClass (top 23) 0
abbrev sBegin : Stmt := inClass (top 23) 1
abbrev sWA : Stmt := inClass (top 23) 2
abbrev sCC : Stmt := inClass (top 23) 3
abbrev sPC : Stmt := inClass (top 23) 4
/-! ### what the top has written -/
structure Def (K : PySem.W.Frag) (mg : Str → Option Value) (x : Str) (st : Stmt) (ps : List Str) (f : Addr) (fd : FuncData) : Prop where
  fn : Fun K x x st f fd
  bd : Binds K fd ps []
  gl : mg x = some (.ref f)
structure Met (K : PySem.W.Frag) (C : Addr) (m qual : Str) (st : Stmt) (ps : List Str) (f : Addr) (fd : FuncData) : Prop where
  fn : Fun K m qual st f fd
  bd : Binds K fd ps []
  mt : Meth K C m f
structure Txt (K : PySem.W.Frag) (mg : Str → Option Value) (C : Addr) : Prop where
  cl : Cls K C
  aB : NoAttr K C "begun"
  aW : NoAttr K C "wanted"
  aP : NoAttr K C "pieces"
  aK : NoAttr K C "baskets"
  gC : mg "Table" = some (.ref C)
  bLen : mg "len" = none
  bSum : mg "sum" = none
  bMin : mg "min" = none
  bMax : mg "max" = none
  bSorted : mg "sorted" = none
  bRange : mg "range" = none
  bList : mg "list" = none
  bEnum : mg "enumerate" = none
/-! ### the table's attributes -/
def tf (b : Bool) (w : Nat) (pl bl : Addr) : List (Str × V) := [("begun", .bl b), ("wanted", .int (w : Int)), ("pieces", .ref pl), ("baskets", .ref bl)]
theorem look_eq {f : Str} {v : V} {r : List (Str × V)} : List.lookup f ((f, v) :: r) = some v := by simp [List.lookup]
theorem look_ne {f g : Str} {v : V} {r : List (Str × V)} (h : ¬ f = g) : List.lookup f ((g, v) :: r) = List.lookup f r := by
  have hb : (f == g) = false := beq_eq_false_iff_ne.mpr h
  simp [List.lookup, hb]
theorem tf_begun {b : Bool} {w : Nat} {pl bl : Addr} : (tf b w pl bl).lookup ("begun" : Str) = some (.bl b) := look_eq
theorem tf_wanted {b : Bool} {w : Nat} {pl bl : Addr} : (tf b w pl bl).lookup ("wanted" : Str) = some (.int (w : Int)) := (look_ne (by decide +kernel)).trans look_eq
theorem tf_pieces {b : Bool} {w : Nat} {pl bl : Addr} : (tf b w pl bl).lookup ("pieces" : Str) = some (.ref pl) := (look_ne (by decide +kernel)).trans ((look_ne (by decide +kernel)).trans look_eq)
theorem tf_baskets {b : Bool} {w : Nat} {pl bl : Addr} : (tf b w pl bl).lookup ("baskets" : Str) = some (.ref bl) :=
  (look_ne (by decide +kernel)).trans ((look_ne (by decide +kernel)).trans ((look_ne (by decide +kernel)).trans look_eq))
theorem tf_none {b : Bool} {w : Nat} {pl bl : Addr} {m : Str} (h1 : ¬ m = "begun") (h2 : ¬ m = "wanted") (h3 : ¬ m = "pieces") (h4 : ¬ m = "baskets") : (tf b w pl bl).lookup m = none :=
  (look_ne h1).trans ((look_ne h2).trans ((look_ne h3).trans (look_ne h4)))
theorem put_eq {f : Str} {v x : V} {r : List (Str × V)} : putF f v ((f, x) :: r) = (f, v) :: r := by
  show (if f = f then (f, v) :: r else _) = _
  rw [if_pos rfl]
theorem put_ne {f g : Str} {v x : V} {r : List (Str × V)} (h : ¬ g = f) : putF f v ((g, x) :: r) = (g, x) :: putF f v r := by
  show (if g = f then _ else (g, x) :: putF f v r) = _
  rw [if_neg h]
theorem put_begun {b b' : Bool} {w : Nat} {pl bl : Addr} : putF "begun" (.bl b') (tf b w pl bl) = tf b' w pl bl := put_eq
theorem put_wanted {b : Bool} {w w' : Nat} {pl bl : Addr} : putF "wanted" (.int (w' : Int)) (tf b w pl bl) = tf b w' pl bl := (put_ne (by decide +kernel)).trans (congrArg _ put_eq)
theorem put_pieces {b : Bool} {w : Nat} {pl pl' bl : Addr} : putF "pieces" (.ref pl') (tf b w pl bl) = tf b w pl' bl := (put_ne (by decide +kernel)).trans (congrArg _ ((put_ne (by decide +kernel)).trans (congrArg _ put_eq)))
theorem put_baskets {b : Bool} {w : Nat} {pl bl bl' : Addr} : putF "baskets" (.ref bl') (tf b w pl bl) = tf b w pl bl' :=
  (put_ne (by decide +kernel)).trans (congrArg _ ((put_ne (by decide +kernel)).trans (congrArg _ ((put_ne (by decide +kernel)).trans (congrArg _ put_eq)))))
/-! ### the table in the heap -/
structure TabG (C : Addr) (H : Hp) (t pl bl : Addr) (bs : List Addr) (dx : Addr) (bg : Bool) (want : Nat) (ps : List Nat) (ks : List (List Nat)) : Prop where
  ins : H t = some (.ins C dx (tf bg want pl bl))
  pcs : H pl = some (.lst (vi ps))
  bks : H bl = some (.lst (bs.map V.ref))
  len : bs.length = ks.length
  each : ∀ (i : Nat) (b : Addr) (k : List Nat), bs[i]? = some b → ks[i]? = some k → H b = some (.lst (vi k))
  ne : pl ≠ bl
  nb : ∀ b ∈ bs, b ≠ pl ∧ b ≠ bl
section
variable {C t pl bl dx : Addr} {H H' : Hp} {bs : List Addr} {bg : Bool} {want : Nat} {ps : List Nat} {ks : List (List Nat)}
theorem TabG.keep (T : TabG C H t pl bl bs dx bg want ps ks) (s : ∀ b o, H b = some o → b ∈ t :: pl :: bl :: bs → H' b = some o) : TabG C H' t pl bl bs dx bg want ps ks :=
  ⟨s _ _ T.ins (by simp), s _ _ T.pcs (by simp), s _ _ T.bks (by simp), T.len, fun i b k hb hk => s _ _ (T.each i b k hb hk) (by have := List.mem_of_getElem? hb; simp [this]), T.ne, T.nb⟩
theorem TabG.same (T : TabG C H t pl bl bs dx bg want ps ks) (s : Same H H') : TabG C H' t pl bl bs dx bg want ps ks := T.keep fun b o e _ => s b o e
theorem TabG.tp (T : TabG C H t pl bl bs dx bg want ps ks) : t ≠ pl := ne_of T.ins T.pcs (by intro z; cases z)
theorem TabG.tb (T : TabG C H t pl bl bs dx bg want ps ks) : t ≠ bl := ne_of T.ins T.bks (by intro z; cases z)
theorem TabG.there (T : TabG C H t pl bl bs dx bg want ps ks) {b : Addr} (hb : b ∈ bs) : ∃ k, H b = some (.lst (vi k)) := by
  obtain ⟨i, hi, e⟩ := List.getElem_of_mem hb
  have hi' : i < ks.length := by rw [← T.len]; exact hi
  exact ⟨_, T.each i b ks[i] (by rw [List.getElem?_eq_getElem hi, e]) (List.getElem?_eq_getElem hi')⟩
theorem TabG.nt (T : TabG C H t pl bl bs dx bg want ps ks) : ∀ b ∈ bs, b ≠ t := fun b hb => by
  obtain ⟨k, e⟩ := T.there hb
  exact ne_of e T.ins (by intro z; cases z)
end
def TabS (C : Addr) (H : Hp) (t : Addr) (w : List Addr) (st : Kv351.State) : Prop := ∃ (pl bl : Addr) (bs : List Addr) (dx : Addr), w = t :: pl :: bl :: bs ∧ match st with
  | none => TabG C H t pl bl bs dx false 0 [] []
  | some a => TabG C H t pl bl bs dx true a.want a.pieces a.baskets
theorem TabS.same {C t : Addr} {H H' : Hp} {w : List Addr} {st : Kv351.State} (T : TabS C H t w st) (s : ∀ b o, H b = some o → b ∈ w → H' b = some o) : TabS C H' t w st := by
  obtain ⟨pl, bl, bs, dx, rfl, T⟩ := T
  refine ⟨pl, bl, bs, dx, rfl, ?_⟩
  cases st with
  | none => exact TabG.keep T s
  | some a => exact TabG.keep T s
/-- what a call's caller wants: the new state, the answer a new list, all that is not the table's as it was -/
def Post (C : Addr) (H : Hp) (t : Addr) (w : List Addr) (st : Kv351.State) (ans : List Int) (Q : VK) : Prop :=
  ∀ (H' : Hp) (p : Addr) (w' : List Addr), TabS C H' t w' st → H' p = some (.lst (ans.map V.int)) → (∀ b o, H b = some o → b ∉ w → H' b = some o) → (∀ b ∈ w', b ∈ w ∨ H b = none) → H p = none → Q (.ref p) H'
def spC (K : PySem.W.Frag) (C : Addr) (q : Nat) : Sp := fun vs H Q _ => ∃ (t told : Addr) (st : Kv351.State) (w : List Addr) (xs : List Int), vs = [.ref t, .ref told] ∧ TabS C H t w st ∧ OkS st ∧ nB st ≤ 256 ∧ (st = none → q = 0) ∧
  SqL K H told (xs.map V.int) ∧ counts[q]? = some xs.length ∧ (∀ x ∈ xs, 0 ≤ x) ∧ Post C H t w (Kv351.act st (callAt q xs)).1 (Kv351Neutral.row (Kv351.act st (callAt q xs)).2) Q
/-- a call that only looks, or refuses -/
theorem Post.look {C t : Addr} {H H1 : Hp} {w : List Addr} {st st' : Kv351.State} {ans zs : List Int} {Q : VK} {p : Addr} (h : Post C H t w st' ans Q) (T : TabS C H t w st) (e1 : st' = st) (e2 : ans = zs) (s : Same H H1) (hp : H1 p = none) :
    Q (.ref p) (upd H1 p (.lst (zs.map V.int))) := by
  subst e1 e2
  have s2 : Same H (upd H1 p (.lst (ans.map V.int))) := same_put s (s.free hp)
  exact h _ p w (T.same fun b o e _ => s2 b o e) upd_same (fun b o e _ => s2 b o e) (fun b hb => .inl hb) (s.free hp)
theorem Post.look' {C t : Addr} {H H1 : Hp} {w : List Addr} {st st' : Kv351.State} {ans zs : List Int} {Q : VK} {p : Addr} (h : Post C H t w st' ans Q) (T : TabS C H t w st) (e1 : st' = st) (e2 : ans = zs) (s : Same H H1) (hn : H p = none) (hp : H1 p = some (.lst (zs.map V.int))) :
    Q (.ref p) H1 := by
  subst e1 e2
  exact h _ p w (T.same fun b o e _ => s b o e) hp (fun b o e _ => s b o e) (fun b hb => .inl hb) hn
theorem one_arg {q : Nat} {xs : List Int} (h : some 1 = some xs.length) (h0 : ∀ x ∈ xs, 0 ≤ x) : ∃ n : Nat, xs = [(n : Int)] := by
  have h := Option.some.inj h
  match xs, h, h0 with
  | [x], _, h0 => exact ⟨x.toNat, by rw [Int.toNat_of_nonneg (h0 x (by simp))]⟩
section
variable {P : Program} {w : World} {K : PySem.W.Frag} {mg : Str → Option Value} {base : Heap} {C : Addr}
/-! ### __init__, begin_anew -/
def spInit (C : Addr) : Sp := fun vs H Q _ => ∃ (t dx : Addr), vs = [.ref t] ∧ H t = some (.ins C dx []) ∧
  ∀ (H' : Hp) (pl bl : Addr), TabG C H' t pl bl [] dx false 0 [] [] → (∀ b o, H b = some o → b ≠ t → H' b = some o) → H pl = none → H bl = none → Q .non H'
theorem scInit : FnScope ["self"] ["self"] (defScope sInit) := ⟨rfl, rfl, rfl, by decide +kernel, rfl, by decide +kernel, by decide +kernel⟩
theorem put_new (w : Nat) (pl bl : Addr) : putF "baskets" (.ref bl) (putF "pieces" (.ref pl) (putF "wanted" (.int (w : Int)) (putF "begun" (.bl false) []))) = tf false w pl bl := by
  have e1 : putF "begun" (.bl false) [] = [(("begun" : Str), V.bl false)] := rfl
  have e2 : putF "wanted" (.int (w : Int)) [(("begun" : Str), V.bl false)] = [(("begun" : Str), V.bl false), ("wanted", .int (w : Int))] := put_ne (by decide +kernel)
  have e3 : putF "pieces" (.ref pl) [(("begun" : Str), V.bl false), ("wanted", .int (w : Int))] = [(("begun" : Str), V.bl false), ("wanted", .int (w : Int)), ("pieces", .ref pl)] :=
    (put_ne (by decide +kernel)).trans (congrArg _ (put_ne (by decide +kernel)))
  have e4 : putF "baskets" (.ref bl) [(("begun" : Str), V.bl false), ("wanted", .int (w : Int)), ("pieces", .ref pl)] = tf false w pl bl :=
    (put_ne (by decide +kernel)).trans (congrArg _ ((put_ne (by decide +kernel)).trans (congrArg _ (put_ne (by decide +kernel)))))
  rw [e1, e2, e3, e4]
theorem ok_init {f : Addr} {fd : FuncData} (F : Fun K "__init__" "Table.__init__" sInit f fd) (T : Txt K mg C) : FnOk P w K mg base CX0 1 f fd ["self"] (spInit C) := by
  refine F.ok scInit (fun vs H Q E h => ?_) (fun cdv A outer s H vs Q E hr h => ?_)
  · obtain ⟨t, dx, rfl, _⟩ := h
    rfl
  · obtain ⟨t, dx, rfl, ht, k⟩ := h
    refine ⟨_, pss_cons (ps_fld (pv 0) pe_bl rfl) (pss_cons (ps_fld (pv 0) pe_int rfl) (pss_cons (ps_fld (pv 0) (pe_lst pa_nil) rfl) (pss_one (ps_fld (pv 0) (pe_lst pa_nil) rfl)))), ?_⟩
    refine ⟨_, rfl, t, C, dx, _, rfl, ht, T.cl, T.aB, (by show 0 < 1000; decide), _, rfl, t, C, dx, _, rfl, upd_same, T.cl, T.aW, (by show 1 < 1000; decide), Nat.zero_le _, fun pl hpl => ?_⟩
    have npl : t ≠ pl := ne_of_none upd_same hpl
    have hpl0 : H pl = none := by rw [upd_ne npl.symm, upd_ne npl.symm] at hpl; exact hpl
    refine ⟨_, rfl, t, C, dx, _, rfl, Eq.trans (upd_ne npl) upd_same, T.cl, T.aP, (by show 2 < 1000; decide), Nat.zero_le _, fun bl hbl => ?_⟩
    have nbl : t ≠ bl := ne_of_none upd_same hbl
    have npb : pl ≠ bl := ne_of_none (Eq.trans (upd_ne npl.symm) upd_same) hbl
    have hbl0 : H bl = none := by rw [upd_ne nbl.symm, upd_ne npb.symm, upd_ne nbl.symm, upd_ne nbl.symm] at hbl; exact hbl
    refine ⟨_, rfl, t, C, dx, _, rfl, Eq.trans (upd_ne nbl) upd_same, T.cl, T.aK, (by show 3 < 1000; decide), ?_⟩
    refine k _ pl bl ⟨?_, ?_, ?_, rfl, (fun i b k hb => by simp at hb), npb, (fun b hb => nomatch hb)⟩ (fun b o e hb => ?_) hpl0 hbl0
    · rw [upd_same]
      exact congrArg (fun q => some (HO.ins C dx q)) (put_new 0 pl bl)
    · rw [upd_ne npl.symm, upd_ne npb, upd_ne npl.symm, upd_same]
      rfl
    · rw [upd_ne nbl.symm, upd_same]
      rfl
    · rw [upd_ne hb, upd_ne (ne_of_none e hbl0), upd_ne hb, upd_ne (ne_of_none e hpl0), upd_ne hb, upd_ne hb]
      exact e
def spBegin (C : Addr) : Sp := fun vs H Q _ => ∃ (t pl bl dx : Addr) (bs : List Addr) (bg : Bool) (want : Nat) (ps : List Nat) (ks : List (List Nat)) (w : Nat), vs = [.ref t, .int (w : Int)] ∧ TabG C H t pl bl bs dx bg want ps ks ∧
  ∀ (H' : Hp) (pl' bl' : Addr), TabG C H' t pl' bl' [] dx true w [] [] → (∀ b o, H b = some o → b ≠ t → H' b = some o) → H pl' = none → H bl' = none → Q .non H'
theorem scBegin : FnScope ["self", "wanted"] ["self", "wanted"] (defScope sBegin) := ⟨rfl, rfl, rfl, by decide +kernel, rfl, by decide +kernel, by decide +kernel⟩
theorem ok_begin {f : Addr} {fd : FuncData} (F : Fun K "begin_anew" "Table.begin_anew" sBegin f fd) (T : Txt K mg C) : FnOk P w K mg base CX0 1 f fd ["self", "wanted"] (spBegin C) := by
  refine F.ok scBegin (fun vs H Q E h => ?_) (fun cdv A outer s H vs Q E hr h => ?_)
  · obtain ⟨t, pl, bl, dx, bs, bg, want, ps, ks, w, rfl, _⟩ := h
    rfl
  · obtain ⟨t, pl0, bl0, dx, bs, bg, want, ps, ks, w, rfl, G, k⟩ := h
    refine ⟨_, pss_cons (ps_fld (pv 0) pe_bl rfl) (pss_cons (ps_fld (pv 0) (pv 1) rfl) (pss_cons (ps_fld (pv 0) (pe_lst pa_nil) rfl) (pss_one (ps_fld (pv 0) (pe_lst pa_nil) rfl)))), ?_⟩
    refine ⟨_, rfl, t, C, dx, _, rfl, G.ins, T.cl, T.aB, (by show 4 < 1000; decide), ?_⟩
    rw [put_begun]
    refine ⟨_, rfl, _, rfl, t, C, dx, _, rfl, upd_same, T.cl, T.aW, (by show 4 < 1000; decide), ?_⟩
    rw [put_wanted]
    refine ⟨Nat.zero_le _, fun pl hpl => ?_⟩
    have npl : t ≠ pl := ne_of_none upd_same hpl
    have hpl0 : H pl = none := by rw [upd_ne npl.symm, upd_ne npl.symm] at hpl; exact hpl
    refine ⟨_, rfl, t, C, dx, _, rfl, Eq.trans (upd_ne npl) upd_same, T.cl, T.aP, (by show 4 < 1000; decide), ?_⟩
    rw [put_pieces]
    refine ⟨Nat.zero_le _, fun bl hbl => ?_⟩
    have nbl : t ≠ bl := ne_of_none upd_same hbl
    have npb : pl ≠ bl := ne_of_none (Eq.trans (upd_ne npl.symm) upd_same) hbl
    have hbl0 : H bl = none := by rw [upd_ne nbl.symm, upd_ne npb.symm, upd_ne nbl.symm, upd_ne nbl.symm] at hbl; exact hbl
    refine ⟨_, rfl, t, C, dx, _, rfl, Eq.trans (upd_ne nbl) upd_same, T.cl, T.aK, (by show 4 < 1000; decide), ?_⟩
    rw [put_baskets]
    refine k _ pl bl ⟨upd_same, ?_, ?_, rfl, (fun i b k hb => by simp at hb), npb, (fun b hb => nomatch hb)⟩ (fun b o e hb => ?_) hpl0 hbl0
    · rw [upd_ne npl.symm, upd_ne npb, upd_ne npl.symm, upd_same]
      rfl
    · rw [upd_ne nbl.symm, upd_same]
      rfl
    · rw [upd_ne hb, upd_ne (ne_of_none e hbl0), upd_ne hb, upd_ne (ne_of_none e hpl0), upd_ne hb, upd_ne hb]
      exact e
/-! ### weigh_all, count_came -/
def spWA (C : Addr) : Sp := fun vs H Q _ => ∃ (t pl bl dx : Addr) (bs : List Addr) (bg : Bool) (want : Nat) (ps : List Nat) (ks : List (List Nat)), vs = [.ref t] ∧ TabG C H t pl bl bs dx bg want ps ks ∧ Q (.int (ps.sum : Int)) H
theorem scWA : FnScope ["self"] ["self"] (defScope sWA) := ⟨rfl, rfl, rfl, by decide +kernel, rfl, by decide +kernel, by decide +kernel⟩
theorem ok_wa {f : Addr} {fd : FuncData} (F : Fun K "weigh_all" "Table.weigh_all" sWA f fd) (T : Txt K mg C) : FnOk P w K mg base CX0 1 f fd ["self"] (spWA C) := by
  refine F.ok scWA (fun vs H Q E h => ?_) (fun cdv A outer s H vs Q E hr h => ?_)
  · obtain ⟨t, pl, bl, dx, bs, bg, want, ps, ks, rfl, _⟩ := h
    rfl
  · obtain ⟨t, pl, bl, dx, bs, bg, want, ps, ks, rfl, G, k⟩ := h
    refine ⟨_, pss_one (ps_ret (pe_callB (cr_sum rfl) (by rfl) T.bSum PyProof.Rows.boot_sum (pa_cons (pe_fld (pv 0) rfl) pa_nil))), ?_⟩
    refine ⟨_, rfl, t, C, dx, _, _, rfl, G.ins, T.cl, T.aP, tf_pieces, pl, ps.map Int.ofNat, rfl, SqL.of G.pcs, ?_⟩
    rw [sum_ints]
    exact k
def spCC (C : Addr) : Sp := fun vs H Q _ => ∃ (t pl bl dx : Addr) (bs : List Addr) (bg : Bool) (want : Nat) (ps : List Nat) (ks : List (List Nat)), vs = [.ref t] ∧ TabG C H t pl bl bs dx bg want ps ks ∧ ks.length ≤ 1000 ∧
  ∀ H' : Hp, Same H H' → Q (.int ((ps.length + (ks.map List.length).sum : Nat) : Int)) H'
theorem scCC : FnScope ["self", "basket"] ["self"] (defScope sCC) := ⟨rfl, rfl, rfl, by decide +kernel, rfl, by decide +kernel, by decide +kernel⟩
/-- how long the lists are -/
def lenIn (bs : List Addr) (ks : List (List Nat)) : V → V
  | .ref b => .int ((((bs.zip ks).lookup b).getD []).length : Int)
  | v => v
theorem ok_cc {f : Addr} {fd : FuncData} (F : Fun K "count_came" "Table.count_came" sCC f fd) (T : Txt K mg C) : FnOk P w K mg base CX0 1 f fd ["self"] (spCC C) := by
  refine F.ok scCC (fun vs H Q E h => ?_) (fun cdv A outer s H vs Q E hr h => ?_)
  · obtain ⟨t, pl, bl, dx, bs, bg, want, ps, ks, rfl, _⟩ := h
    rfl
  · obtain ⟨t, pl, bl, dx, bs, bg, want, ps, ks, rfl, G, hk, k⟩ := h
    refine ⟨_, pss_one (ps_ret (pe_op op_add (pe_callB call_len_seq (by rfl) T.bLen PySem.boot_len (pa_cons (pe_fld (pv 0) rfl) pa_nil))
      (pe_callB (cr_sum rfl) (by rfl) T.bSum PyProof.Rows.boot_sum (pa_cons
        (pe_lc (own := [("basket", 1)]) rfl scCC.nd (pi_list (pe_fld (pv 0) rfl)) (blkOk_by rfl) (fun _ _ _ _ _ => pg_name (i := 1) scCC.nd rfl (Or.inl rfl)) (fun _ _ _ _ _ => pts_nil)
          (fun _ _ _ _ _ => pe_callB (call_lenK (K := K) rfl) (by rfl) T.bLen PySem.boot_len (pa_cons (pv 1) pa_nil))) pa_nil)))), ?_⟩
    refine ⟨_, rfl, t, C, dx, _, _, rfl, G.ins, T.cl, T.aP, tf_pieces, pl, _, rfl, .inl (SqL.of G.pcs), ?_⟩
    refine ⟨_, rfl, t, C, dx, _, _, rfl, G.ins, T.cl, T.aK, tf_baskets, bl, rfl, ⟨_, SqL.of G.bks⟩, fun D hD => ?_⟩
    refine lc_list (K := K) (a := bl) (xs := bs.map V.ref) (fun i H' => Same H H' ∧ H' D = some (.lst ((((ks.take i).map List.length).map Int.ofNat).map V.int))) ⟨same_new hD, upd_same⟩
      (fun i H' _ q => q.1.seq (SqL.of G.bks)) (fun i x H' hx q => ?_) fun H' q => ?_
    · rw [List.getElem?_map] at hx
      cases e : bs[i]? with
      | none => rw [e] at hx; cases hx
      | some b =>
        rw [e] at hx
        cases hx
        have hi : i < ks.length := by rw [← G.len]; exact (List.getElem?_eq_some_iff.mp e).1
        have ek : ks[i]? = some ks[i] := List.getElem?_eq_getElem hi
        have hb := G.each i b ks[i] e ek
        refine ⟨rfl, iteT (B := Same H H' ∧ H' D = some (.lst ((((ks.take (i + 1)).map List.length).map Int.ofNat).map V.int))) ⟨_, rfl, b, _, rfl, .inl (SqL.of (q.1 _ _ hb)), _, q.2, ?_, same_put q.1 hD, ?_⟩⟩
        · refine small_line ?_
          rw [List.length_map, List.length_map, List.length_map, List.length_take]
          omega
        · rw [upd_same, take_snoc ek, List.map_append, List.map_append, List.map_append, vi_length]
          rfl
    · obtain ⟨s1, hD1⟩ := q
      rw [List.length_map, G.len, List.take_length] at hD1
      refine ⟨D, _, rfl, SqL.of hD1, _, _, rfl, rfl, ?_⟩
      have h := k H' s1
      rw [sum_ints, vi_length]
      show Q (V.int (((ps.length : Nat) : Int) + (((ks.map List.length).sum : Nat) : Int))) H'
      have e : ((ps.length : Nat) : Int) + (((ks.map List.length).sum : Nat) : Int) = ((ps.length + (ks.map List.length).sum : Nat) : Int) := by omega
      rw [e]
      exact h
/-! ### pack_chosen -/
def spPC (C : Addr) : Sp := fun vs H Q _ => ∃ (t pl bl dx : Addr) (bs : List Addr) (bg : Bool) (want : Nat) (ps : List Nat) (ks : List (List Nat)) (s : Nat), vs = [.ref t, .int (s : Int)] ∧ TabG C H t pl bl bs dx bg want ps ks ∧ ps.length ≤ 9 ∧ ks.length ≤ 1000 ∧
  ∀ (H' : Hp) (pl' b : Addr), TabG C H' t pl' bl (bs ++ [b]) dx bg want (Kv351.without ps s) (ks ++ [Kv351.chosen ps s]) → (∀ b o, H b = some o → b ≠ t → b ≠ bl → H' b = some o) → H pl' = none → H b = none → Q (.int (ks.length : Int)) H'
theorem scPC : FnScope ["self", "chosen", "parted"] ["self", "chosen"] (defScope sPC) := ⟨rfl, rfl, rfl, by decide +kernel, rfl, by decide +kernel, by decide +kernel⟩
theorem ok_pc {f fp : Addr} {fd fdp : FuncData} (F : Fun K "pack_chosen" "Table.pack_chosen" sPC f fd) (T : Txt K mg C) (DP : Def K mg "part_by_set" sPS ["pieces", "chosen"] fp fdp) : FnOk P w K mg base CX0 2 f fd ["self", "chosen"] (spPC C) := by
  have GP : FnOk P w K mg base CX0 1 fp fdp ["pieces", "chosen"] (spPS K) := ok_ps DP.fn
  refine F.ok scPC (fun vs H Q E h => ?_) (fun cdv A outer s H vs Q E hr h => ?_)
  · obtain ⟨t, pl, bl, dx, bs, bg, want, ps, ks, s0, rfl, _⟩ := h
    rfl
  · obtain ⟨t, pl, bl, dx, bs, bg, want, ps, ks, s0, rfl, G, hps, hks, k⟩ := h
    refine ⟨_, pss_cons (ps_set (i := 2) scPC.nd rfl (Or.inl rfl) (pe_call GP hr rfl DP.gl DP.fn.kp DP.bd .nil pass0 (pa_cons (pe_fld (pv 0) rfl) (pa_cons (pv 1) pa_nil))))
      (pss_cons (ps_expr (pe_bm PySem.F.plainAttrs_list PySem.F.slot_list_append PySem.F.type_list_append mt_append (pe_fld (pv 0) rfl) (pa_cons (pe_ix ix_tup (pv 2) pe_int (fun _ _ => rfl)) pa_nil)))
      (pss_cons (ps_fld (pv 0) (pe_ix ix_tup (pv 2) pe_int (fun _ _ => rfl)) rfl)
      (pss_one (ps_ret (pe_op op_sub (pe_callB call_len_seq (by rfl) T.bLen PySem.boot_len (pa_cons (pe_fld (pv 0) rfl) pa_nil)) pe_int))))), ?_⟩
    refine ⟨_, rfl, t, C, dx, _, _, rfl, G.ins, T.cl, T.aP, tf_pieces, _, rfl, pl, ps, s0, rfl, SqL.of G.pcs, hps, fun H1 p p1 p2 s1 n0 n1 n2 ne h0 h1 h2 => ?_⟩
    have G1 := G.same s1
    refine ⟨_, rfl, t, C, dx, _, _, rfl, G1.ins, T.cl, T.aK, tf_baskets, .inl ⟨rfl, _, SqL.of G1.bks⟩, _, rfl, p, _, _, _, rfl, rfl, SqT.of h0, at_of (j := 0) rfl rfl, bl, _, _, rfl, rfl, G1.bks, ?_, ?_⟩
    · refine small_line ?_
      rw [List.length_map, G.len]
      omega
    have nbt : t ≠ bl := G.tb
    have np : p ≠ bl := fun e => by rw [e, G.bks] at n0; cases n0
    have np1 : p1 ≠ bl := fun e => by rw [e, G.bks] at n1; cases n1
    have np2 : p2 ≠ bl := fun e => by rw [e, G.bks] at n2; cases n2
    have np1t : p1 ≠ t := fun e => by rw [e, G.ins] at n1; cases n1
    have np2t : p2 ≠ t := fun e => by rw [e, G.ins] at n2; cases n2
    refine ⟨_, rfl, p, _, _, _, rfl, rfl, SqT.of (Eq.trans (upd_ne np) h0), at_of (j := 1) rfl rfl, _, rfl, t, C, dx, _, rfl, Eq.trans (upd_ne nbt) G1.ins, T.cl, T.aP, (by show 4 < 1000; decide), ?_⟩
    rw [put_pieces]
    have bm : (bs.map V.ref ++ [V.ref p1]) = (bs ++ [p1]).map V.ref := by rw [List.map_append]; rfl
    have hbl : ∀ o, (upd (upd H1 bl (.lst (bs.map V.ref ++ [V.ref p1]))) t o) bl = some (.lst ((bs ++ [p1]).map V.ref)) := fun o => by rw [upd_ne nbt.symm, upd_same, bm]
    refine ⟨_, rfl, t, C, dx, _, _, rfl, upd_same, T.cl, T.aK, tf_baskets, bl, _, rfl, .inl (SqL.of (hbl _)), _, _, rfl, rfl, ?_⟩
    have el : (((bs ++ [p1]).map V.ref).length : Int) - 1 = (ks.length : Int) := by
      rw [List.length_map, List.length_append, List.length_singleton, G.len]
      omega
    show Q (V.int ((((bs ++ [p1]).map V.ref).length : Int) - 1)) _
    rw [el]
    refine k _ p2 p1 ⟨upd_same, ?_, hbl _, ?_, fun i b x hb hx => ?_, np2, fun b hb => ?_⟩ (fun b o e hbt hbb => ?_) n2 n1
    · rw [upd_ne np2t, upd_ne np2]
      exact h2
    · rw [List.length_append, List.length_append, G.len]
      rfl
    · by_cases hi : i < bs.length
      · rw [List.getElem?_append_left hi] at hb
        rw [List.getElem?_append_left (by rw [← G.len]; exact hi)] at hx
        have e := G1.each i b x hb hx
        have hm := List.mem_of_getElem? hb
        rw [upd_ne (G.nt b hm), upd_ne (G.nb b hm).2]
        exact e
      · have hl : i < (bs ++ [p1]).length := (List.getElem?_eq_some_iff.mp hb).1
        rw [List.length_append, List.length_singleton] at hl
        have e : i = bs.length := by omega
        subst e
        rw [List.getElem?_append_right (Nat.le_refl _), Nat.sub_self] at hb
        rw [G.len, List.getElem?_append_right (Nat.le_refl _), Nat.sub_self] at hx
        have e1 : p1 = b := Option.some.inj hb
        have e2 : Kv351.chosen ps s0 = x := Option.some.inj hx
        rw [← e1, ← e2, upd_ne np1t, upd_ne np1]
        exact h1
    · rcases List.mem_append.mp hb with hb | hb
      · obtain ⟨kk, hk⟩ := G.there hb
        exact ⟨(fun e => by rw [e, n2] at hk; cases hk), (G.nb b hb).2⟩
      · rw [List.mem_singleton.mp hb]
        exact ⟨ne, np1⟩
    · rw [upd_ne hbt, upd_ne hbb]
      exact s1 b o e
end
end BW
set_option Elab.async false
set_option linter.all false
set_option maxRecDepth 100000
set_option maxHeartbeats 4000000
namespace BW
open PySem PySem.Spec PyProof.Rows L2
abbrev sBegin0 : Stmt := top 24
abbrev sPiece : Stmt := top 25
abbrev sTake : Stmt := top 26
abbrev sWant : Stmt := top 27
/-! ### constants -/
def Gi (mg : Str → Option Value) (x : Str) (z : Int) : Prop := ∃ tk, mg x = some (.int z tk)
theorem pe_gi {X : Cx} {x : Str} {z : Int} {pos : Pos} (hg : Gl X x) (h : Gi X.mg x z) (hd : (x == ("__debug__" : Str)) = false := by decide) : PE X (.Name x pos) (tC (.int z)) := by
  obtain ⟨tk, h⟩ := h
  exact pe_glob hg h ⟨tk, rfl⟩ hd
structure Cst (mg : Str → Option Value) : Prop where
  noSuch : Gi mg "NO_SUCH" (-2)
  noneThere : Gi mg "NONE_THERE" (-6)
  notBegun : Gi mg "NOT_BEGUN" (-11)
  tooLight : Gi mg "TOO_LIGHT" (-12)
  outOf : Gi mg "OUT_OF_RANGE" (-22)
  tooMany : Gi mg "TOO_MANY" (-28)
  notEnough : Gi mg "NOT_ENOUGH" (-33)
  onTable : Gi mg "MOST_ON_TABLE" 9
  cameMost : Gi mg "MOST_THAT_CAME" 60
  pieceMost : Gi mg "MOST_PIECE_GRAMS" 1000
  gramsMost : Gi mg "MOST_GRAMS" 10000
  mostNeeded : Gi mg "MOST_NEEDED" 1000
  begin0 : Gi mg "BEGIN" 0
/-! ### the end of a call -/
theorem Post.done {C t : Addr} {H H1 : Hp} {w w' : List Addr} {st : Kv351.State} {ans zs : List Int} {Q : VK} {p : Addr} (h : Post C H t w st ans Q) (T : TabS C H1 t w' st) (e : ans = zs) (keep : ∀ b o, H b = some o → b ∉ w → H1 b = some o)
    (there : ∀ b ∈ w, ∀ o, H b = some o → ∃ o', H1 b = some o') (sub : ∀ b ∈ w', b ∈ w ∨ H b = none) (hp : H1 p = none) : Q (.ref p) (upd H1 p (.lst (zs.map V.int))) := by
  subst e
  have hp0 : H p = none := by
    cases e : H p with
    | none => rfl
    | some o =>
      by_cases hw : p ∈ w
      · obtain ⟨o', e'⟩ := there p hw o e
        rw [hp] at e'; cases e'
      · rw [keep p o e hw] at hp; cases hp
  refine h _ p w' (T.same fun b o e _ => ?_) upd_same (fun b o e hb => ?_) sub hp0
  · rw [upd_ne (ne_of_none e hp)]; exact e
  · rw [upd_ne (ne_of_none e hp0)]; exact keep b o e hb
section
variable {C t pl bl dx : Addr} {H : Hp} {bs : List Addr} {bg : Bool} {want : Nat} {ps ps' : List Nat} {ks : List (List Nat)}
theorem TabG.setP (T : TabG C H t pl bl bs dx bg want ps ks) : TabG C (upd H pl (.lst (vi ps'))) t pl bl bs dx bg want ps' ks :=
  ⟨by rw [upd_ne T.tp]; exact T.ins, upd_same, by rw [upd_ne T.ne.symm]; exact T.bks, T.len, fun i b k hb hk => by rw [upd_ne (T.nb b (List.mem_of_getElem? hb)).1]; exact T.each i b k hb hk, T.ne, T.nb⟩
end
theorem there_upd {H H1 : Hp} {q : Addr} {o : HO} (s : Same H H1) : ∀ b u, H b = some u → ∃ u', (upd H1 q o) b = some u' := fun b u e => by
  by_cases hb : b = q
  · subst hb; exact ⟨_, upd_same⟩
  · exact ⟨u, by rw [upd_ne hb]; exact s b u e⟩
theorem act_begin_bad {st : Kv351.State} {n : Nat} (h : n = 0 ∨ 10000 < n) : Kv351.act st (.begin_ n) = (st, ⟨-22, []⟩) := by
  have hc : n = 0 ∨ Kv351.okW n = false := by
    rcases h with h | h
    · exact .inl h
    · exact .inr (decide_eq_false (by omega))
  cases st with
  | none => simp only [Kv351.act, Kv351.Abs.does, if_pos hc, Kv351.say]; rfl
  | some a => simp only [Kv351.act, Kv351.Abs.does, if_pos hc, Kv351.say]
theorem act_begin_ok {st : Kv351.State} {n : Nat} (h1 : 1 ≤ n) (h2 : n ≤ 10000) : Kv351.act st (.begin_ n) = (some (Kv351.begun n), ⟨0, []⟩) := by
  have hc : ¬ (n = 0 ∨ Kv351.okW n = false) := by
    rintro (h | h)
    · omega
    · have : ¬ n ≤ 10000 := of_decide_eq_false h
      omega
  cases st with
  | none => simp only [Kv351.act, Kv351.Abs.does, if_neg hc, Kv351.say]; rfl
  | some a => simp only [Kv351.act, Kv351.Abs.does, if_neg hc, Kv351.say]
section
variable {P : Program} {w : World} {K : PySem.W.Frag} {mg : Str → Option Value} {base : Heap} {C : Addr}
theorem len_spC {q : Nat} (vs : List V) (H : Hp) (Q : VK) (E : XK) (h : spC K C q vs H Q E) : vs.length = 2 := by
  obtain ⟨t, told, st, w, xs, rfl, _⟩ := h
  rfl
/-! ### begin -/
theorem scBegin0 : FnScope ["table", "told", "wanted"] ["table", "told"] (defScope sBegin0) := ⟨rfl, rfl, rfl, by decide +kernel, rfl, by decide +kernel, by decide +kernel⟩
theorem ok_c0 {f fb : Addr} {fd fdb : FuncData} (F : Fun K "call_begin" "call_begin" sBegin0 f fd) (T : Txt K mg C) (c : Cst mg) (MB : Met K C "begin_anew" "Table.begin_anew" sBegin ["self", "wanted"] fb fdb) :
    FnOk P w K mg base CX0 4 f fd ["table", "told"] (spC K C 0) := by
  have GB : FnOk P w K mg base CX0 1 fb fdb ["self", "wanted"] (spBegin C) := ok_begin MB.fn T
  refine F.ok scBegin0 (fun vs H Q E h => len_spC vs H Q E h) (fun cdv A outer s H vs Q E hr h => ?_)
  obtain ⟨t, told, st, w, xs, rfl, TS, O, nb, hne, hT, hx, h0, k⟩ := h
  obtain ⟨n, rfl⟩ := one_arg (q := 0) hx h0
  have hr1 : Room 1 _ := hr.mono (by decide)
  refine ⟨_, pss_cons (ps_set (i := 2) scBegin0.nd rfl (Or.inl rfl) (pe_ix ix_list (pv 1) pe_int (fun _ _ => rfl)))
    (pss_cons (ps_if (pw_or (pt_cmpR op_lt (pv 2) pe_int (nomark _)) (pw_or1 (pt_cmpR op_gt (pv 2) (pe_gi (by rfl) c.gramsMost) (nomark _)))).pt (pss_one (ps_ret (pe_lst (pa_cons (pe_gi (by rfl) c.outOf) pa_nil)))) pss_nil)
    (pss_cons (ps_expr (pe_meth (pv 0) T.cl MB.mt GB hr1 MB.bd .nil pass0 (pa_cons (pv 2) pa_nil)))
    (pss_one (ps_ret (pe_lst (pa_cons pe_int pa_nil)))))), ?_⟩
  have bad : n = 0 ∨ 10000 < n → ∀ p, H p = none → Q (.ref p) (upd H p (.lst [.int (-22)])) := fun hb p hp => by
    have e : Kv351.act st (callAt 0 [(n : Int)]) = (st, ⟨-22, []⟩) := act_begin_bad hb
    rw [e] at k
    exact k.look (zs := [-22]) TS rfl rfl (Same.refl H) hp
  refine ⟨_, rfl, told, _, _, _, rfl, rfl, hT, at_of (j := 0) rfl rfl, ?_⟩
  refine ⟨_, rfl, _, _, rfl, rfl, _, rfl, ite2 (fun hc => ?_) (fun hc => ?_)⟩
  · simp only [decide_eq_true_eq] at hc
    exact ⟨(by show 1 ≤ sizeLine; decide), bad (by omega)⟩
  · simp only [decide_eq_true_eq] at hc
    refine ⟨_, rfl, _, _, rfl, rfl, _, rfl, ite2 (fun hc2 => ?_) (fun hc2 => ?_)⟩
    · simp only [decide_eq_true_eq] at hc2
      exact ⟨(by show 1 ≤ sizeLine; decide), bad (by omega)⟩
    · simp only [decide_eq_true_eq] at hc2
      obtain ⟨pl, bl, bs, dx, rfl, G⟩ := TS
      have e : Kv351.act st (callAt 0 [(n : Int)]) = (some (Kv351.begun n), ⟨0, []⟩) := act_begin_ok (n := n) (by omega) (by omega)
      rw [e] at k
      obtain ⟨bg, want, ps, ks, G⟩ : ∃ bg want ps ks, TabG C H t pl bl bs dx bg want ps ks := by
        cases st with
        | none => exact ⟨_, _, _, _, G⟩
        | some a => exact ⟨_, _, _, _, G⟩
      refine ⟨_, rfl, t, dx, _, rfl, G.ins, tf_none (by decide +kernel) (by decide +kernel) (by decide +kernel) (by decide +kernel), _, rfl, t, pl, bl, dx, bs, bg, want, ps, ks, n, rfl, G, fun H1 pl' bl' G1 kp n1 n2 => ?_⟩
      refine ⟨(by show 1 ≤ sizeLine; decide), fun p hp => ?_⟩
      refine k.done (zs := [0]) (w' := [t, pl', bl']) ⟨pl', bl', [], dx, rfl, G1⟩ rfl (fun b o e hb => kp b o e (fun z => hb (by rw [z]; simp))) (fun b hb o e => ?_) (fun b hb => ?_) hp
      · by_cases hbt : b = t
        · subst hbt; exact ⟨_, G1.ins⟩
        · exact ⟨o, kp b o e hbt⟩
      · simp only [List.mem_cons, List.not_mem_nil, or_false] at hb
        rcases hb with rfl | rfl | rfl
        · exact .inl (by simp)
        · exact .inr n1
        · exact .inr n2
/-! ### piece -/
theorem scPiece : FnScope ["table", "told", "grams"] ["table", "told"] (defScope sPiece) := ⟨rfl, rfl, rfl, by decide +kernel, rfl, by decide +kernel, by decide +kernel⟩
theorem ok_c1 {f fc fa : Addr} {fd fdc fda : FuncData} (F : Fun K "call_piece" "call_piece" sPiece f fd) (T : Txt K mg C) (c : Cst mg) (MC : Met K C "count_came" "Table.count_came" sCC ["self"] fc fdc) (MA : Met K C "weigh_all" "Table.weigh_all" sWA ["self"] fa fda) :
    FnOk P w K mg base CX0 4 f fd ["table", "told"] (spC K C 1) := by
  have GC : FnOk P w K mg base CX0 1 fc fdc ["self"] (spCC C) := ok_cc MC.fn T
  have GA : FnOk P w K mg base CX0 1 fa fda ["self"] (spWA C) := ok_wa MA.fn T
  refine F.ok scPiece (fun vs H Q E h => len_spC vs H Q E h) (fun cdv A outer s H vs Q E hr h => ?_)
  obtain ⟨t, told, st, w, xs, rfl, TS, O, nb, hne, hT, hx, h0, k⟩ := h
  obtain ⟨n, rfl⟩ := one_arg (q := 1) hx h0
  cases st with
  | none => exact absurd (hne rfl) (by decide)
  | some a =>
  have hr1 : Room 1 _ := hr.mono (by decide)
  refine ⟨_, pss_cons (ps_set (i := 2) scPiece.nd rfl (Or.inl rfl) (pe_ix ix_list (pv 1) pe_int (fun _ _ => rfl)))
    (pss_cons (ps_if (pw_or (pt_cmpR op_lt (pv 2) pe_int (nomark _)) (pw_or1 (pt_cmpR op_gt (pv 2) (pe_gi (by rfl) c.pieceMost) (nomark _)))).pt (pss_one (ps_ret (pe_lst (pa_cons (pe_gi (by rfl) c.outOf) pa_nil)))) pss_nil)
    (pss_cons (ps_if (pw_or (pt_cmpR op_ge (pe_callB call_len_seq (by rfl) T.bLen PySem.boot_len (pa_cons (pe_fld (pv 0) rfl) pa_nil)) (pe_gi (by rfl) c.onTable) (nomark _))
        (pw_or1 (pt_cmpR op_ge (pe_meth0 (pv 0) T.cl MC.mt GC hr1 MC.bd .nil pass0) (pe_gi (by rfl) c.cameMost) (nomark _)))).pt (pss_one (ps_ret (pe_lst (pa_cons (pe_gi (by rfl) c.tooMany) pa_nil)))) pss_nil)
    (pss_cons (ps_expr (pe_bm PySem.F.plainAttrs_list PySem.F.slot_list_append PySem.F.type_list_append mt_append (pe_fld (pv 0) rfl) (pa_cons (pv 2) pa_nil)))
    (pss_one (ps_ret (pe_lst (pa_cons (pe_op op_sub (pe_callB call_len_seq (by rfl) T.bLen PySem.boot_len (pa_cons (pe_fld (pv 0) rfl) pa_nil)) pe_int) (pa_cons (pe_meth0 (pv 0) T.cl MA.mt GA hr1 MA.bd .nil pass0) pa_nil)))))))), ?_⟩
  have Oa := O a rfl
  have TS0 := TS
  obtain ⟨pl, bl, bs, dx, rfl, G⟩ := TS
  have bad : n = 0 ∨ 1000 < n → ∀ p, H p = none → Q (.ref p) (upd H p (.lst [.int (-22)])) := fun hb p hp => by
    have e : Kv351.act (some a) (callAt 1 [(n : Int)]) = (some a, ⟨-22, []⟩) := by
      show Kv351.act (some a) (.piece n) = _
      simp only [Kv351.act, Kv351.Abs.does, if_pos hb, Kv351.say]
    rw [e] at k
    exact k.look (zs := [-22]) TS0 rfl rfl (Same.refl H) hp
  have many : ¬ (n = 0 ∨ 1000 < n) → 9 ≤ a.n ∨ 60 ≤ a.came → ∀ H1 p, Same H H1 → H1 p = none → Q (.ref p) (upd H1 p (.lst [.int (-28)])) := fun hb hm H1 p s1 hp => by
    have e : Kv351.act (some a) (callAt 1 [(n : Int)]) = (some a, ⟨-28, []⟩) := by
      show Kv351.act (some a) (.piece n) = _
      simp only [Kv351.act, Kv351.Abs.does, if_neg hb, if_pos hm, Kv351.say]
    rw [e] at k
    exact k.look (zs := [-28]) TS0 rfl rfl s1 hp
  refine ⟨_, rfl, told, _, _, _, rfl, rfl, hT, at_of (j := 0) rfl rfl, ?_⟩
  refine ⟨_, rfl, _, _, rfl, rfl, _, rfl, ite2 (fun hc => ?_) (fun hc => ?_)⟩
  · simp only [decide_eq_true_eq] at hc
    exact ⟨(by show 1 ≤ sizeLine; decide), bad (by omega)⟩
  simp only [decide_eq_true_eq] at hc
  refine ⟨_, rfl, _, _, rfl, rfl, _, rfl, ite2 (fun hc2 => ?_) (fun hc2 => ?_)⟩
  · simp only [decide_eq_true_eq] at hc2
    exact ⟨(by show 1 ≤ sizeLine; decide), bad (by omega)⟩
  simp only [decide_eq_true_eq] at hc2
  have hgood : ¬ (n = 0 ∨ 1000 < n) := by omega
  refine ⟨_, rfl, t, C, dx, _, _, rfl, G.ins, T.cl, T.aP, tf_pieces, pl, _, rfl, .inl (SqL.of G.pcs), _, _, rfl, rfl, _, rfl, ite2 (fun hc3 => ?_) (fun hc3 => ?_)⟩
  · simp only [decide_eq_true_eq, vi_length] at hc3
    exact ⟨(by show 1 ≤ sizeLine; decide), fun p hp => many hgood (.inl (by show 9 ≤ a.pieces.length; omega)) H p (Same.refl H) hp⟩
  simp only [decide_eq_true_eq, vi_length] at hc3
  refine ⟨_, rfl, t, dx, _, rfl, G.ins, tf_none (by decide +kernel) (by decide +kernel) (by decide +kernel) (by decide +kernel), t, pl, bl, dx, bs, true, a.want, a.pieces, a.baskets, rfl, G, ?_, fun H1 s1 => ?_⟩
  · have : a.baskets.length ≤ 256 := nb
    omega
  rw [← Oa.came]
  refine ⟨_, _, rfl, rfl, _, rfl, ite2 (fun hc4 => ?_) (fun hc4 => ?_)⟩
  · simp only [decide_eq_true_eq] at hc4
    exact ⟨(by show 1 ≤ sizeLine; decide), fun p hp => many hgood (.inr (by omega)) H1 p s1 hp⟩
  simp only [decide_eq_true_eq] at hc4
  have G1 := G.same s1
  refine ⟨_, rfl, t, C, dx, _, _, rfl, G1.ins, T.cl, T.aP, tf_pieces, .inl ⟨rfl, _, SqL.of G1.pcs⟩, _, rfl, pl, _, _, rfl, rfl, G1.pcs, small_line (by rw [vi_length]; omega), ?_⟩
  have e9 : vi a.pieces ++ [V.int (n : Int)] = vi (a.pieces ++ [n]) := by rw [vi_append]; rfl
  rw [e9]
  have G2 : TabG C (upd H1 pl (.lst (vi (a.pieces ++ [n])))) t pl bl bs dx true a.want (a.pieces ++ [n]) a.baskets := G1.setP
  refine ⟨_, rfl, t, C, dx, _, _, rfl, G2.ins, T.cl, T.aP, tf_pieces, pl, _, rfl, .inl (SqL.of G2.pcs), _, _, rfl, rfl, ?_⟩
  refine ⟨_, rfl, t, dx, _, rfl, G2.ins, tf_none (by decide +kernel) (by decide +kernel) (by decide +kernel) (by decide +kernel), t, pl, bl, dx, bs, true, a.want, _, a.baskets, rfl, G2, (by show 2 ≤ sizeLine; decide), fun p hp => ?_⟩
  have hk : ¬ (9 ≤ a.n ∨ 60 ≤ a.came) := by
    have : a.n = a.pieces.length := rfl
    omega
  have e : Kv351.act (some a) (callAt 1 [(n : Int)]) = (some { a with pieces := a.pieces ++ [n], came := a.came + 1 }, ⟨(a.n : Nat), [a.pieces.sum + n]⟩) := by
    show Kv351.act (some a) (.piece n) = _
    simp only [Kv351.act, Kv351.Abs.does, if_neg hgood, if_neg hk]
  rw [e] at k
  have ez : [V.int ((((vi (a.pieces ++ [n])).length : Nat) : Int) - 1), V.int (((a.pieces ++ [n]).sum : Nat) : Int)] = [((a.pieces.length : Nat) : Int), ((a.pieces.sum + n : Nat) : Int)].map V.int := by
    rw [vi_length, List.length_append, List.length_singleton, List.sum_append]
    simp only [List.map_cons, List.map_nil, List.sum_cons, List.sum_nil, Nat.add_zero]
    congr 2
    omega
  show Q (.ref p) (upd _ p (.lst [V.int ((((vi (a.pieces ++ [n])).length : Nat) : Int) - 1), V.int (((a.pieces ++ [n]).sum : Nat) : Int)]))
  rw [ez]
  refine k.done (w' := t :: pl :: bl :: bs) ⟨pl, bl, bs, dx, rfl, G2⟩ rfl (fun b o e hb => ?_) (fun b _ o e => there_upd s1 b o e) (fun b hb => .inl hb) hp
  rw [upd_ne (fun z => hb (by rw [z]; simp))]
  exact s1 b o e
end
end BW
set_option Elab.async false
set_option linter.all false
set_option maxRecDepth 100000
set_option maxHeartbeats 4000000
namespace BW
open PySem PySem.Spec PyProof.Rows L2
section
variable {P : Program} {w : World} {K : PySem.W.Frag} {mg : Str → Option Value} {base : Heap} {C : Addr}
/-! ### take -/
theorem vi_erase (l : List Nat) (i : Nat) : (vi l).eraseIdx i = vi (l.take i ++ l.drop (i + 1)) := by
  unfold vi
  rw [← List.eraseIdx_eq_take_drop_succ, List.eraseIdx_eq_take_drop_succ, List.eraseIdx_eq_take_drop_succ]
  simp only [List.map_append, List.map_take, List.map_drop]
theorem scTake : FnScope ["table", "told", "place"] ["table", "told"] (defScope sTake) := ⟨rfl, rfl, rfl, by decide +kernel, rfl, by decide +kernel, by decide +kernel⟩
theorem ok_c2 {f : Addr} {fd : FuncData} (F : Fun K "call_take" "call_take" sTake f fd) (T : Txt K mg C) (c : Cst mg) : FnOk P w K mg base CX0 4 f fd ["table", "told"] (spC K C 2) := by
  refine F.ok scTake (fun vs H Q E h => len_spC vs H Q E h) (fun cdv A outer s H vs Q E hr h => ?_)
  obtain ⟨t, told, st, w, xs, rfl, TS, O, nb, hne, hT, hx, h0, k⟩ := h
  obtain ⟨n, rfl⟩ := one_arg (q := 2) hx h0
  cases st with
  | none => exact absurd (hne rfl) (by decide)
  | some a =>
  refine ⟨_, pss_cons (ps_set (i := 2) scTake.nd rfl (Or.inl rfl) (pe_ix ix_list (pv 1) pe_int (fun _ _ => rfl)))
    (pss_cons (ps_if (pt_cmpR op_ge (pv 2) (pe_callB call_len_seq (by rfl) T.bLen PySem.boot_len (pa_cons (pe_fld (pv 0) rfl) pa_nil)) (nomark _)) (pss_one (ps_ret (pe_lst (pa_cons (pe_gi (by rfl) c.noSuch) pa_nil)))) pss_nil)
    (pss_one (ps_ret (pe_lst (pa_cons (pe_bm PySem.F.plainAttrs_list PySem.F.slot_list_pop PySem.F.type_list_pop mt_popAt (pe_fld (pv 0) rfl) (pa_cons (pv 2) pa_nil)) pa_nil))))), ?_⟩
  have Oa := O a rfl
  have hf := Oa.few
  have TS0 := TS
  obtain ⟨pl, bl, bs, dx, rfl, G⟩ := TS
  refine ⟨_, rfl, told, _, _, _, rfl, rfl, hT, at_of (j := 0) rfl rfl, ?_⟩
  refine ⟨_, rfl, _, rfl, t, C, dx, _, _, rfl, G.ins, T.cl, T.aP, tf_pieces, pl, _, rfl, .inl (SqL.of G.pcs), _, _, rfl, rfl, _, rfl, ite2 (fun hc => ?_) (fun hc => ?_)⟩
  · simp only [decide_eq_true_eq, vi_length] at hc
    refine ⟨(by show 1 ≤ sizeLine; decide), fun p hp => ?_⟩
    have hn : a.n ≤ n := by show a.pieces.length ≤ n; omega
    have e : Kv351.act (some a) (callAt 2 [(n : Int)]) = (some a, ⟨-2, []⟩) := by
      show Kv351.act (some a) (.take n) = _
      simp only [Kv351.act, Kv351.Abs.does, if_pos hn, Kv351.say]
    rw [e] at k
    exact k.look (zs := [-2]) TS0 rfl rfl (Same.refl H) hp
  · simp only [decide_eq_true_eq, vi_length] at hc
    have hlt : n < a.pieces.length := by omega
    have eg : a.pieces[n]? = some (a.pieces.getD n 0) := by
      simp [List.getD, List.getElem?_eq_getElem hlt]
    refine ⟨_, rfl, t, C, dx, _, _, rfl, G.ins, T.cl, T.aP, tf_pieces, .inl ⟨rfl, _, SqL.of G.pcs⟩, _, rfl, pl, _, _, n, _, rfl, rfl, G.pcs, by omega, by omega, ?_, vi_get eg, ?_⟩
    · rw [vi_length, seqIndex_of (by omega) (by omega)]
      rfl
    rw [vi_erase]
    refine ⟨(by show 1 ≤ sizeLine; decide), fun p hp => ?_⟩
    have hn : ¬ a.n ≤ n := by show ¬ a.pieces.length ≤ n; omega
    have e : Kv351.act (some a) (callAt 2 [(n : Int)]) = (some { a with pieces := a.pieces.take n ++ a.pieces.drop (n + 1), came := a.came - 1 }, ⟨(a.pieces.getD n 0 : Nat), []⟩) := by
      show Kv351.act (some a) (.take n) = _
      simp only [Kv351.act, Kv351.Abs.does, if_neg hn, Kv351.say]
    rw [e] at k
    refine k.done (zs := [((a.pieces.getD n 0 : Nat) : Int)]) (w' := t :: pl :: bl :: bs) ⟨pl, bl, bs, dx, rfl, G.setP⟩ rfl (fun b o e hb => ?_) (fun b _ o e => there_upd (Same.refl H) b o e) (fun b hb => .inl hb) hp
    rw [upd_ne (fun z => hb (by rw [z]; simp))]
    exact e
/-! ### want -/
theorem scWant : FnScope ["table", "told", "wanted", "before"] ["table", "told"] (defScope sWant) := ⟨rfl, rfl, rfl, by decide +kernel, rfl, by decide +kernel, by decide +kernel⟩
theorem ok_c3 {f : Addr} {fd : FuncData} (F : Fun K "call_want" "call_want" sWant f fd) (T : Txt K mg C) (c : Cst mg) : FnOk P w K mg base CX0 4 f fd ["table", "told"] (spC K C 3) := by
  refine F.ok scWant (fun vs H Q E h => len_spC vs H Q E h) (fun cdv A outer s H vs Q E hr h => ?_)
  obtain ⟨t, told, st, w, xs, rfl, TS, O, nb, hne, hT, hx, h0, k⟩ := h
  obtain ⟨n, rfl⟩ := one_arg (q := 3) hx h0
  cases st with
  | none => exact absurd (hne rfl) (by decide)
  | some a =>
  refine ⟨_, pss_cons (ps_set (i := 2) scWant.nd rfl (Or.inl rfl) (pe_ix ix_list (pv 1) pe_int (fun _ _ => rfl)))
    (pss_cons (ps_if (pw_or (pt_cmpR op_lt (pv 2) pe_int (nomark _)) (pw_or1 (pt_cmpR op_gt (pv 2) (pe_gi (by rfl) c.gramsMost) (nomark _)))).pt (pss_one (ps_ret (pe_lst (pa_cons (pe_gi (by rfl) c.outOf) pa_nil)))) pss_nil)
    (pss_cons (ps_set (i := 3) scWant.nd rfl (Or.inl rfl) (pe_fld (pv 0) rfl))
    (pss_cons (ps_fld (pv 0) (pv 2) rfl)
    (pss_one (ps_ret (pe_lst (pa_cons (pv 3) pa_nil))))))), ?_⟩
  have TS0 := TS
  obtain ⟨pl, bl, bs, dx, rfl, G⟩ := TS
  have bad : n = 0 ∨ 10000 < n → ∀ p, H p = none → Q (.ref p) (upd H p (.lst [.int (-22)])) := fun hb p hp => by
    have hc : n = 0 ∨ Kv351.okW n = false := by
      rcases hb with h | h
      · exact .inl h
      · exact .inr (decide_eq_false (by omega))
    have e : Kv351.act (some a) (callAt 3 [(n : Int)]) = (some a, ⟨-22, []⟩) := by
      show Kv351.act (some a) (.want n) = _
      simp only [Kv351.act, Kv351.Abs.does, if_pos hc, Kv351.say]
    rw [e] at k
    exact k.look (zs := [-22]) TS0 rfl rfl (Same.refl H) hp
  refine ⟨_, rfl, told, _, _, _, rfl, rfl, hT, at_of (j := 0) rfl rfl, ?_⟩
  refine ⟨_, rfl, _, _, rfl, rfl, _, rfl, ite2 (fun hc => ?_) (fun hc => ?_)⟩
  · simp only [decide_eq_true_eq] at hc
    exact ⟨(by show 1 ≤ sizeLine; decide), bad (by omega)⟩
  simp only [decide_eq_true_eq] at hc
  refine ⟨_, rfl, _, _, rfl, rfl, _, rfl, ite2 (fun hc2 => ?_) (fun hc2 => ?_)⟩
  · simp only [decide_eq_true_eq] at hc2
    exact ⟨(by show 1 ≤ sizeLine; decide), bad (by omega)⟩
  simp only [decide_eq_true_eq] at hc2
  refine ⟨_, rfl, t, C, dx, _, _, rfl, G.ins, T.cl, T.aW, tf_wanted, ?_⟩
  refine ⟨_, rfl, _, rfl, t, C, dx, _, rfl, G.ins, T.cl, T.aW, (by show 4 < 1000; decide), ?_⟩
  rw [put_wanted]
  refine ⟨_, rfl, (by show 1 ≤ sizeLine; decide), fun p hp => ?_⟩
  have hgood : ¬ (n = 0 ∨ Kv351.okW n = false) := by
    rintro (h | h)
    · omega
    · have : ¬ n ≤ 10000 := of_decide_eq_false h
      omega
  have e : Kv351.act (some a) (callAt 3 [(n : Int)]) = (some { a with want := n }, ⟨(a.want : Nat), []⟩) := by
    show Kv351.act (some a) (.want n) = _
    simp only [Kv351.act, Kv351.Abs.does, if_neg hgood, Kv351.say]
  rw [e] at k
  refine k.done (zs := [((a.want : Nat) : Int)]) (w' := t :: pl :: bl :: bs) ⟨pl, bl, bs, dx, rfl, ⟨upd_same, ?_, ?_, G.len, fun i b x hb hx => ?_, G.ne, G.nb⟩⟩ rfl (fun b o e hb => ?_) (fun b _ o e => there_upd (Same.refl H) b o e) (fun b hb => .inl hb) hp
  · rw [upd_ne G.tp.symm]; exact G.pcs
  · rw [upd_ne G.tb.symm]; exact G.bks
  · rw [upd_ne (G.nt b (List.mem_of_getElem? hb))]; exact G.each i b x hb hx
  · rw [upd_ne (fun z => hb (by rw [z]; simp))]
    exact e
end
end BW
set_option Elab.async false
set_option linter.all false
set_option maxRecDepth 100000
set_option maxHeartbeats 4000000
namespace BW
open PySem PySem.Spec PyProof.Rows L2
abbrev sPack : Stmt := top 28
abbrev sPackset : Stmt := top 29
abbrev sUnpack : Stmt := top 30
theorem no_arg {xs : List Int} (h : some 0 = some xs.length) : xs = [] := List.length_eq_zero_iff.mp (Option.some.inj h).symm
section
variable {P : Program} {w : World} {K : PySem.W.Frag} {mg : Str → Option Value} {base : Heap} {C : Addr}
/-- a set is packed: the end of pack, packset -/
theorem packed {t pl bl dx pl' b : Addr} {H H1 H2 : Hp} {bs : List Addr} {a : Kv351.Abs} {s : Nat} {zs : List Int} {ans : List Int} {Q : VK} {p : Addr} (G : TabG C H t pl bl bs dx true a.want a.pieces a.baskets) (s1 : Same H H1)
    (G2 : TabG C H2 t pl' bl (bs ++ [b]) dx true a.want (Kv351.without a.pieces s) (a.baskets ++ [Kv351.chosen a.pieces s])) (kp : ∀ b o, H1 b = some o → b ≠ t → b ≠ bl → H2 b = some o) (n1 : H1 pl' = none) (n2 : H1 b = none)
    (k : Post C H t (t :: pl :: bl :: bs) (some (a.packs s)) ans Q) (e : ans = zs) (hp : H2 p = none) : Q (.ref p) (upd H2 p (.lst (zs.map V.int))) := by
  refine k.done (w' := t :: pl' :: bl :: (bs ++ [b])) ⟨pl', bl, bs ++ [b], dx, rfl, G2⟩ e (fun b o e hb => ?_) (fun c hc o e => ?_) (fun c hc => ?_) hp
  · exact kp b o (s1 b o e) (fun z => hb (by rw [z]; simp)) (fun z => hb (by rw [z]; simp))
  · by_cases h1 : c = t
    · subst h1; exact ⟨_, G2.ins⟩
    · by_cases h2 : c = bl
      · subst h2; exact ⟨_, G2.bks⟩
      · exact ⟨o, kp c o (s1 c o e) h1 h2⟩
  · simp only [List.mem_cons, List.mem_append, List.not_mem_nil, or_false] at hc
    rcases hc with rfl | rfl | rfl | hc | rfl
    · exact .inl (by simp)
    · exact .inr (s1.free n1)
    · exact .inl (by simp)
    · exact .inl (by simp [hc])
    · exact .inr (s1.free n2)
/-! ### pack -/
theorem scPack : FnScope ["table", "told", "found", "weight", "chosen"] ["table", "told"] (defScope sPack) := ⟨rfl, rfl, rfl, by decide +kernel, rfl, by decide +kernel, by decide +kernel⟩
theorem ok_c4 {f fa fb fp : Addr} {fd fda fdb fdp : FuncData} (F : Fun K "call_pack" "call_pack" sPack f fd) (T : Txt K mg C) (c : Cst mg) (MA : Met K C "weigh_all" "Table.weigh_all" sWA ["self"] fa fda) (MP : Met K C "pack_chosen" "Table.pack_chosen" sPC ["self", "chosen"] fp fdp)
    (DB : Def K mg "best_set" sBS ["pieces", "least"] fb fdb) (GB : FnOk P w K mg base CX0 3 fb fdb ["pieces", "least"] (spBS K)) (GP : FnOk P w K mg base CX0 2 fp fdp ["self", "chosen"] (spPC C)) : FnOk P w K mg base CX0 4 f fd ["table", "told"] (spC K C 4) := by
  have GA : FnOk P w K mg base CX0 1 fa fda ["self"] (spWA C) := ok_wa MA.fn T
  refine F.ok scPack (fun vs H Q E h => len_spC vs H Q E h) (fun cdv A outer s H vs Q E hr h => ?_)
  obtain ⟨t, told, st, w, xs, rfl, TS, O, nb, hne, hT, hx, h0, k⟩ := h
  obtain rfl := no_arg hx
  cases st with
  | none => exact absurd (hne rfl) (by decide)
  | some a =>
  have hr1 : Room 1 _ := hr.mono (by decide)
  have hr2 : Room 2 _ := hr.mono (by decide)
  refine ⟨_, pss_cons (ps_if (pt_cmpR op_lt (pe_meth0 (pv 0) T.cl MA.mt GA hr1 MA.bd .nil pass0) (pe_fld (pv 0) rfl) (nomark _)) (pss_one (ps_ret (pe_lst (pa_cons (pe_gi (by rfl) c.notEnough) pa_nil)))) pss_nil)
    (pss_cons (ps_set (i := 2) scPack.nd rfl (Or.inl rfl) (pe_call GB hr rfl DB.gl DB.fn.kp DB.bd .nil pass0 (pa_cons (pe_fld (pv 0) rfl) (pa_cons (pe_fld (pv 0) rfl) pa_nil))))
    (pss_cons (ps_set (i := 3) scPack.nd rfl (Or.inl rfl) (pe_ix ix_tup (pv 2) pe_int (fun _ _ => rfl)))
    (pss_cons (ps_set (i := 4) scPack.nd rfl (Or.inl rfl) (pe_ix ix_tup (pv 2) pe_int (fun _ _ => rfl)))
    (pss_one (ps_ret (pe_lst (pa_cons (pe_meth (pv 0) T.cl MP.mt GP hr2 MP.bd .nil pass0 (pa_cons (pv 4) pa_nil)) (pa_cons (pv 3) (pa_cons (pv 4) pa_nil))))))))), ?_⟩
  have Oa := O a rfl
  have TS0 := TS
  obtain ⟨pl, bl, bs, dx, rfl, G⟩ := TS
  have tn : ∀ m : Str, m = "weigh_all" ∨ m = "pack_chosen" → (tf true a.want pl bl).lookup m = none := fun m hm => by
    rcases hm with rfl | rfl <;> exact tf_none (by decide +kernel) (by decide +kernel) (by decide +kernel) (by decide +kernel)
  refine ⟨_, rfl, t, dx, _, rfl, G.ins, tn _ (.inl rfl), t, pl, bl, dx, bs, true, a.want, a.pieces, a.baskets, rfl, G, ?_⟩
  refine ⟨_, rfl, t, C, dx, _, _, rfl, G.ins, T.cl, T.aW, tf_wanted, _, _, rfl, rfl, _, rfl, ite2 (fun hc => ?_) (fun hc => ?_)⟩
  · simp only [decide_eq_true_eq] at hc
    refine ⟨(by show 1 ≤ sizeLine; decide), fun p hp => ?_⟩
    have e : Kv351.act (some a) (callAt 4 []) = (some a, ⟨-33, []⟩) := by
      show Kv351.act (some a) .pack = _
      simp only [Kv351.act, Kv351.Abs.does, best_none (show a.pieces.sum < a.want by omega), Kv351.say]
    rw [e] at k
    exact k.look (zs := [-33]) TS0 rfl rfl (Same.refl H) hp
  simp only [decide_eq_true_eq] at hc
  refine ⟨_, rfl, t, C, dx, _, _, rfl, G.ins, T.cl, T.aP, tf_pieces, _, rfl, t, C, dx, _, _, rfl, G.ins, T.cl, T.aW, tf_wanted, pl, a.pieces, a.want, rfl, SqL.of G.pcs, Oa.few, by omega, fun H1 p0 s0 s1 n0 hb h1 => ?_⟩
  refine ⟨_, rfl, p0, _, _, _, rfl, rfl, SqT.of h1, at_of (j := 0) rfl rfl, ?_⟩
  refine ⟨_, rfl, p0, _, _, _, rfl, rfl, SqT.of h1, at_of (j := 2) rfl rfl, ?_⟩
  have G1 := G.same s1
  refine ⟨_, rfl, t, dx, _, rfl, G1.ins, tn _ (.inr rfl), _, rfl, t, pl, bl, dx, bs, true, a.want, a.pieces, a.baskets, s0, rfl, G1, Oa.few, ?_, fun H2 pl' b G2 kp n1 n2 => ?_⟩
  · have : a.baskets.length ≤ 256 := nb
    omega
  refine ⟨_, rfl, _, rfl, (by show 3 ≤ sizeLine; decide), fun p hp => ?_⟩
  have e : Kv351.act (some a) (callAt 4 []) = (some (a.packs s0), ⟨(a.baskets.length : Nat), [Kv351.weigh a.pieces s0, s0]⟩) := by
    show Kv351.act (some a) .pack = _
    simp only [Kv351.act, Kv351.Abs.does, hb]
  rw [e] at k
  exact packed (zs := [((a.baskets.length : Nat) : Int), ((Kv351.weigh a.pieces s0 : Nat) : Int), (s0 : Int)]) G s1 G2 kp n1 n2 k rfl hp
/-! ### packset -/
theorem scPackset : FnScope ["table", "told", "chosen", "weights"] ["table", "told"] (defScope sPackset) := ⟨rfl, rfl, rfl, by decide +kernel, rfl, by decide +kernel, by decide +kernel⟩
theorem ok_c5 {f fw fp : Addr} {fd fdw fdp : FuncData} (F : Fun K "call_packset" "call_packset" sPackset f fd) (T : Txt K mg C) (c : Cst mg) (MP : Met K C "pack_chosen" "Table.pack_chosen" sPC ["self", "chosen"] fp fdp)
    (DW : Def K mg "weigh_sets" sWS ["pieces"] fw fdw) (GP : FnOk P w K mg base CX0 2 fp fdp ["self", "chosen"] (spPC C)) : FnOk P w K mg base CX0 4 f fd ["table", "told"] (spC K C 5) := by
  have GW : FnOk P w K mg base CX0 1 fw fdw ["pieces"] (spWS K) := ok_ws DW.fn
  refine F.ok scPackset (fun vs H Q E h => len_spC vs H Q E h) (fun cdv A outer s H vs Q E hr h => ?_)
  obtain ⟨t, told, st, w, xs, rfl, TS, O, nb, hne, hT, hx, h0, k⟩ := h
  obtain ⟨n, rfl⟩ := one_arg (q := 5) hx h0
  cases st with
  | none => exact absurd (hne rfl) (by decide)
  | some a =>
  have hr1 : Room 1 _ := hr.mono (by decide)
  have hr2 : Room 2 _ := hr.mono (by decide)
  refine ⟨_, pss_cons (ps_set (i := 2) scPackset.nd rfl (Or.inl rfl) (pe_ix ix_list (pv 1) pe_int (fun _ _ => rfl)))
    (pss_cons (ps_set (i := 3) scPackset.nd rfl (Or.inl rfl) (pe_call GW hr1 rfl DW.gl DW.fn.kp DW.bd .nil pass0 (pa_cons (pe_fld (pv 0) rfl) pa_nil)))
    (pss_cons (ps_if (pt_cmpR op_ge (pv 2) (pe_callB call_len_seq (by rfl) T.bLen PySem.boot_len (pa_cons (pv 3) pa_nil)) (nomark _)) (pss_one (ps_ret (pe_lst (pa_cons (pe_gi (by rfl) c.outOf) pa_nil)))) pss_nil)
    (pss_cons (ps_if (pt_cmpR op_lt (pe_ix ix_list (pv 3) (pv 2) (fun _ _ => rfl)) (pe_fld (pv 0) rfl) (nomark _)) (pss_one (ps_ret (pe_lst (pa_cons (pe_gi (by rfl) c.tooLight) pa_nil)))) pss_nil)
    (pss_one (ps_ret (pe_lst (pa_cons (pe_meth (pv 0) T.cl MP.mt GP hr2 MP.bd .nil pass0 (pa_cons (pv 2) pa_nil)) (pa_cons (pe_ix ix_list (pv 3) (pv 2) (fun _ _ => rfl)) pa_nil)))))))), ?_⟩
  have Oa := O a rfl
  have TS0 := TS
  obtain ⟨pl, bl, bs, dx, rfl, G⟩ := TS
  refine ⟨_, rfl, told, _, _, _, rfl, rfl, hT, at_of (j := 0) rfl rfl, ?_⟩
  refine ⟨_, rfl, t, C, dx, _, _, rfl, G.ins, T.cl, T.aP, tf_pieces, pl, a.pieces, rfl, SqL.of G.pcs, Oa.few, fun H1 q s1 n0 h1 => ?_⟩
  have G1 := G.same s1
  refine ⟨_, rfl, _, rfl, q, _, rfl, .inl (SqL.of h1), _, _, rfl, rfl, _, rfl, ite2 (fun hc => ?_) (fun hc => ?_)⟩
  · simp only [decide_eq_true_eq, vi_length, weighs_length] at hc
    refine ⟨(by show 1 ≤ sizeLine; decide), fun p hp => ?_⟩
    have hn : 2 ^ a.n ≤ n := by show 2 ^ a.pieces.length ≤ n; exact Int.ofNat_le.mp hc
    have e : Kv351.act (some a) (callAt 5 [(n : Int)]) = (some a, ⟨-22, []⟩) := by
      show Kv351.act (some a) (.packSet n) = _
      simp only [Kv351.act, Kv351.Abs.does, if_pos hn, Kv351.say]
    rw [e] at k
    exact k.look (zs := [-22]) TS0 rfl rfl s1 hp
  simp only [decide_eq_true_eq, vi_length, weighs_length] at hc
  have hn : ¬ 2 ^ a.n ≤ n := fun h => hc (Int.ofNat_le.mpr h)
  have hn' : n < 2 ^ a.pieces.length := Nat.lt_of_not_le hn
  have hw : (vi (weighs a.pieces))[n]? = some (V.int (Kv351.weigh a.pieces n : Int)) := vi_get (weighs_get hn')
  refine ⟨_, rfl, _, rfl, q, _, _, _, rfl, rfl, SqL.of h1, at_of (j := n) rfl hw, _, rfl, t, C, dx, _, _, rfl, G1.ins, T.cl, T.aW, tf_wanted, _, _, rfl, rfl, _, rfl, ite2 (fun hc2 => ?_) (fun hc2 => ?_)⟩
  · simp only [decide_eq_true_eq] at hc2
    refine ⟨(by show 1 ≤ sizeLine; decide), fun p hp => ?_⟩
    have e : Kv351.act (some a) (callAt 5 [(n : Int)]) = (some a, ⟨-12, []⟩) := by
      show Kv351.act (some a) (.packSet n) = _
      simp only [Kv351.act, Kv351.Abs.does, if_neg hn, if_pos (show Kv351.weigh a.pieces n < a.want by omega), Kv351.say]
    rw [e] at k
    exact k.look (zs := [-12]) TS0 rfl rfl s1 hp
  simp only [decide_eq_true_eq] at hc2
  refine ⟨_, rfl, t, dx, _, rfl, G1.ins, tf_none (by decide +kernel) (by decide +kernel) (by decide +kernel) (by decide +kernel), _, rfl, t, pl, bl, dx, bs, true, a.want, a.pieces, a.baskets, n, rfl, G1, Oa.few, ?_, fun H2 pl' b G2 kp n1 n2 => ?_⟩
  · have : a.baskets.length ≤ 256 := nb
    omega
  have hq : H2 q = some (.lst (vi (weighs a.pieces))) := kp q _ h1 (fun z => by rw [z, G.ins] at n0; cases n0) (fun z => by rw [z, G.bks] at n0; cases n0)
  refine ⟨_, rfl, _, rfl, q, _, _, _, rfl, rfl, SqL.of hq, at_of (j := n) rfl hw, (by show 2 ≤ sizeLine; decide), fun p hp => ?_⟩
  have e : Kv351.act (some a) (callAt 5 [(n : Int)]) = (some (a.packs n), ⟨(a.baskets.length : Nat), [Kv351.weigh a.pieces n]⟩) := by
    show Kv351.act (some a) (.packSet n) = _
    simp only [Kv351.act, Kv351.Abs.does, if_neg hn, if_neg (show ¬ Kv351.weigh a.pieces n < a.want by omega)]
  rw [e] at k
  exact packed (zs := [((a.baskets.length : Nat) : Int), ((Kv351.weigh a.pieces n : Nat) : Int)]) G s1 G2 kp n1 n2 k rfl hp
/-! ### unpack -/
theorem scUnpack : FnScope ["table", "told", "count"] ["table", "told"] (defScope sUnpack) := ⟨rfl, rfl, rfl, by decide +kernel, rfl, by decide +kernel, by decide +kernel⟩
theorem last_at {α : Type} {l : List α} {x : α} (h : l.getLast? = some x) : l[l.length - 1]? = some x := by
  rw [← List.getLast?_eq_getElem?]
  exact h
theorem ok_c6 {f : Addr} {fd : FuncData} (F : Fun K "call_unpack" "call_unpack" sUnpack f fd) (T : Txt K mg C) (c : Cst mg) : FnOk P w K mg base CX0 4 f fd ["table", "told"] (spC K C 6) := by
  refine F.ok scUnpack (fun vs H Q E h => len_spC vs H Q E h) (fun cdv A outer s H vs Q E hr h => ?_)
  obtain ⟨t, told, st, w, xs, rfl, TS, O, nb, hne, hT, hx, h0, k⟩ := h
  obtain rfl := no_arg hx
  cases st with
  | none => exact absurd (hne rfl) (by decide)
  | some a =>
  refine ⟨_, pss_cons (ps_if (pt_cmpR op_eq (pe_callB call_len_seq (by rfl) T.bLen PySem.boot_len (pa_cons (pe_fld (pv 0) rfl) pa_nil)) pe_int (nomark _)) (pss_one (ps_ret (pe_lst (pa_cons (pe_gi (by rfl) c.noneThere) pa_nil)))) pss_nil)
    (pss_cons (ps_set (i := 2) scUnpack.nd rfl (Or.inl rfl) (pe_callB call_len_seq (by rfl) T.bLen PySem.boot_len (pa_cons (pe_ix ix_list (pe_fld (pv 0) rfl) (pe_un un_neg pe_int) (fun _ _ => rfl)) pa_nil)))
    (pss_cons (ps_if (pt_cmpR op_gt (pe_op op_add (pe_callB call_len_seq (by rfl) T.bLen PySem.boot_len (pa_cons (pe_fld (pv 0) rfl) pa_nil)) (pv 2)) (pe_gi (by rfl) c.onTable) (nomark _)) (pss_one (ps_ret (pe_lst (pa_cons (pe_gi (by rfl) c.tooMany) pa_nil)))) pss_nil)
    (pss_cons (ps_expr (pe_bm PySem.F.plainAttrs_list PySem.F.slot_list_extend PySem.F.type_list_extend mt_extend (pe_fld (pv 0) rfl)
      (pa_cons (pe_bm0 PySem.F.plainAttrs_list PySem.F.slot_list_pop PySem.F.type_list_pop mt_pop (pe_fld (pv 0) rfl)) pa_nil)))
    (pss_one (ps_ret (pe_lst (pa_cons (pv 2) pa_nil))))))), ?_⟩
  have Oa := O a rfl
  have TS0 := TS
  obtain ⟨pl, bl, bs, dx, rfl, G⟩ := TS
  refine ⟨_, rfl, t, C, dx, _, _, rfl, G.ins, T.cl, T.aK, tf_baskets, bl, _, rfl, .inl (SqL.of G.bks), rfl, _, rfl, ite2 (fun hc => ?_) (fun hc => ?_)⟩
  · simp only [decide_eq_true_eq, V.int.injEq, List.length_map, G.len] at hc
    refine ⟨(by show 1 ≤ sizeLine; decide), fun p hp => ?_⟩
    have hnil : a.baskets = [] := List.length_eq_zero_iff.mp (by omega)
    have e : Kv351.act (some a) (callAt 6 []) = (some a, ⟨-6, []⟩) := by
      show Kv351.act (some a) .unpack = _
      simp only [Kv351.act, Kv351.Abs.does, hnil, List.getLast?_nil, Kv351.say]
    rw [e] at k
    exact k.look (zs := [-6]) TS0 rfl rfl (Same.refl H) hp
  simp only [decide_eq_true_eq, V.int.injEq, List.length_map, G.len] at hc
  obtain ⟨kl, hkl⟩ : ∃ kl, a.baskets.getLast? = some kl := by
    cases e : a.baskets.getLast? with
    | none =>
      have := List.getLast?_eq_none_iff.mp e
      rw [this] at hc
      exact absurd rfl hc
    | some x => exact ⟨x, rfl⟩
  have hki := last_at hkl
  obtain ⟨b, hb⟩ : ∃ b, bs.getLast? = some b := by
    cases e : bs.getLast? with
    | none =>
      have e1 := List.getLast?_eq_none_iff.mp e
      have e2 := G.len
      rw [e1] at e2
      exact absurd (show ((a.baskets.length : Nat) : Int) = 0 by rw [← e2]; rfl) hc
    | some x => exact ⟨x, rfl⟩
  have hbi := last_at hb
  have ebs := getLast_split hb
  have hbm : b ∈ bs := List.mem_of_getElem? hbi
  have hbo : H b = some (.lst (vi kl)) := G.each _ b kl hbi (by rw [G.len]; exact hki)
  have hat : atI (bs.map V.ref) (-1) = some (V.ref b) := by
    rw [ebs, List.map_append]
    exact atI_last _ _
  refine ⟨_, rfl, t, C, dx, _, _, rfl, G.ins, T.cl, T.aK, tf_baskets, _, rfl, bl, _, _, _, rfl, rfl, SqL.of G.bks, hat, b, _, rfl, .inl (SqL.of hbo), ?_⟩
  refine ⟨_, rfl, t, C, dx, _, _, rfl, G.ins, T.cl, T.aP, tf_pieces, pl, _, rfl, .inl (SqL.of G.pcs), _, rfl, _, _, rfl, rfl, _, _, rfl, rfl, _, rfl, ite2 (fun hc2 => ?_) (fun hc2 => ?_)⟩
  · simp only [decide_eq_true_eq, vi_length] at hc2
    refine ⟨(by show 1 ≤ sizeLine; decide), fun p hp => ?_⟩
    have h9 : 9 < a.n + kl.length := by show 9 < a.pieces.length + kl.length; omega
    have e : Kv351.act (some a) (callAt 6 []) = (some a, ⟨-28, []⟩) := by
      show Kv351.act (some a) .unpack = _
      simp only [Kv351.act, Kv351.Abs.does, hkl, if_pos h9, Kv351.say]
    rw [e] at k
    exact k.look (zs := [-28]) TS0 rfl rfl (Same.refl H) hp
  simp only [decide_eq_true_eq, vi_length] at hc2
  have h9 : ¬ 9 < a.n + kl.length := by show ¬ 9 < a.pieces.length + kl.length; omega
  have npb := G.ne
  have nbp := (G.nb b hbm).1
  have nbb := (G.nb b hbm).2
  refine ⟨_, rfl, t, C, dx, _, _, rfl, G.ins, T.cl, T.aP, tf_pieces, .inl ⟨rfl, _, SqL.of G.pcs⟩, _, rfl, t, C, dx, _, _, rfl, G.ins, T.cl, T.aK, tf_baskets, .inl ⟨rfl, _, SqL.of G.bks⟩, bl, _, V.ref b, rfl, rfl, G.bks, ?_, ?_⟩
  · rw [List.length_map, List.getElem?_map, hbi]
    rfl
  refine ⟨pl, b, _, _, rfl, rfl, Eq.trans (upd_ne npb) G.pcs, Eq.trans (upd_ne nbb) hbo, ?_, ?_⟩
  · rw [vi_length, vi_length]
    exact Nat.le_of_lt (small_line (by omega))
  rw [← vi_append]
  refine ⟨_, rfl, (by show 1 ≤ sizeLine; decide), fun p hp => ?_⟩
  have e : Kv351.act (some a) (callAt 6 []) = (some { a with pieces := a.pieces ++ kl, baskets := a.baskets.dropLast }, ⟨(kl.length : Nat), []⟩) := by
    show Kv351.act (some a) .unpack = _
    simp only [Kv351.act, Kv351.Abs.does, hkl, if_neg h9, Kv351.say]
  rw [e] at k
  have ez : [V.int (((vi kl).length : Nat) : Int)] = [((kl.length : Nat) : Int)].map V.int := by rw [vi_length]; rfl
  show Q (.ref p) (upd _ p (.lst [V.int (((vi kl).length : Nat) : Int)]))
  rw [ez]
  have msub : ∀ c, c ∈ bs.dropLast → c ∈ bs := fun c hc => (List.dropLast_sublist _).mem hc
  refine k.done (w' := t :: pl :: bl :: bs.dropLast) ⟨pl, bl, bs.dropLast, dx, rfl, ⟨?_, upd_same, ?_, ?_, fun i b' x hb' hx' => ?_, npb, fun c hc => G.nb c (msub c hc)⟩⟩ rfl (fun c o e hc => ?_) (fun c _ o e => ?_) (fun c hc => ?_) hp
  · rw [upd_ne G.tp, upd_ne G.tb]; exact G.ins
  · rw [upd_ne npb.symm, upd_same, List.map_dropLast]
  · show bs.dropLast.length = a.baskets.dropLast.length
    rw [List.length_dropLast, List.length_dropLast, G.len]
  · have hb1 : bs[i]? = some b' := by
      have hi := (List.getElem?_eq_some_iff.mp hb').1
      rw [List.length_dropLast] at hi
      rw [List.getElem?_dropLast, if_pos hi] at hb'
      exact hb'
    have hx1 : a.baskets[i]? = some x := by
      have hx' : a.baskets.dropLast[i]? = some x := hx'
      have hi := (List.getElem?_eq_some_iff.mp hx').1
      rw [List.length_dropLast] at hi
      rw [List.getElem?_dropLast, if_pos hi] at hx'
      exact hx'
    have hm := List.mem_of_getElem? hb1
    rw [upd_ne (G.nb b' hm).1, upd_ne (G.nb b' hm).2]
    exact G.each i b' x hb1 hx1
  · rw [upd_ne (fun z => hc (by rw [z]; simp)), upd_ne (fun z => hc (by rw [z]; simp))]
    exact e
  · obtain ⟨o1, e1⟩ := there_upd (H1 := H) (q := bl) (o := .lst (bs.map V.ref).dropLast) (Same.refl H) c o e
    by_cases hcp : c = pl
    · subst hcp; exact ⟨_, upd_same⟩
    · exact ⟨o1, by rw [upd_ne hcp]; exact e1⟩
  · simp only [List.mem_cons] at hc
    rcases hc with rfl | rfl | rfl | hc
    · exact .inl (by simp)
    · exact .inl (by simp)
    · exact .inl (by simp)
    · exact .inl (by simp [msub c hc])
end
end BW
set_option Elab.async false
set_option linter.all false
set_option maxRecDepth 100000
set_option maxHeartbeats 4000000
namespace BW
open PySem PySem.Spec PyProof.Rows L2
abbrev sBest : Stmt := top 31
abbrev sFewest : Stmt := top 32
abbrev sMost : Stmt := top 33
abbrev sWays : Stmt := top 34
abbrev sUnder : Stmt := top 35
theorem okW_big {n : Nat} (h : 10000 < n) : Kv351.okW n = false := decide_eq_false (by omega)
theorem okW_ok {n : Nat} (h : n ≤ 10000) : ¬ Kv351.okW n = false := fun e => by
  have : ¬ n ≤ 10000 := of_decide_eq_false e
  omega
section
variable {P : Program} {w : World} {K : PySem.W.Frag} {mg : Str → Option Value} {base : Heap} {C : Addr}
/-! ### best -/
theorem scBest : FnScope ["table", "told", "least", "found"] ["table", "told"] (defScope sBest) := ⟨rfl, rfl, rfl, by decide +kernel, rfl, by decide +kernel, by decide +kernel⟩
theorem ok_c7 {f fa fb : Addr} {fd fda fdb : FuncData} (F : Fun K "call_best" "call_best" sBest f fd) (T : Txt K mg C) (c : Cst mg) (MA : Met K C "weigh_all" "Table.weigh_all" sWA ["self"] fa fda)
    (DB : Def K mg "best_set" sBS ["pieces", "least"] fb fdb) (GB : FnOk P w K mg base CX0 3 fb fdb ["pieces", "least"] (spBS K)) : FnOk P w K mg base CX0 4 f fd ["table", "told"] (spC K C 7) := by
  have GA : FnOk P w K mg base CX0 1 fa fda ["self"] (spWA C) := ok_wa MA.fn T
  refine F.ok scBest (fun vs H Q E h => len_spC vs H Q E h) (fun cdv A outer s H vs Q E hr h => ?_)
  obtain ⟨t, told, st, w, xs, rfl, TS, O, nb, hne, hT, hx, h0, k⟩ := h
  obtain ⟨n, rfl⟩ := one_arg (q := 7) hx h0
  cases st with
  | none => exact absurd (hne rfl) (by decide)
  | some a =>
  have hr1 : Room 1 _ := hr.mono (by decide)
  refine ⟨_, pss_cons (ps_set (i := 2) scBest.nd rfl (Or.inl rfl) (pe_ix ix_list (pv 1) pe_int (fun _ _ => rfl)))
    (pss_cons (ps_if (pt_cmpR op_gt (pv 2) (pe_gi (by rfl) c.gramsMost) (nomark _)) (pss_one (ps_ret (pe_lst (pa_cons (pe_gi (by rfl) c.outOf) pa_nil)))) pss_nil)
    (pss_cons (ps_if (pt_cmpR op_lt (pe_meth0 (pv 0) T.cl MA.mt GA hr1 MA.bd .nil pass0) (pv 2) (nomark _)) (pss_one (ps_ret (pe_lst (pa_cons (pe_gi (by rfl) c.notEnough) pa_nil)))) pss_nil)
    (pss_cons (ps_set (i := 3) scBest.nd rfl (Or.inl rfl) (pe_call GB hr rfl DB.gl DB.fn.kp DB.bd .nil pass0 (pa_cons (pe_fld (pv 0) rfl) (pa_cons (pv 2) pa_nil))))
    (pss_one (ps_ret (pe_lst (pa_cons (pe_ix ix_tup (pv 3) pe_int (fun _ _ => rfl)) (pa_cons (pe_ix ix_tup (pv 3) pe_int (fun _ _ => rfl)) (pa_cons (pe_ix ix_tup (pv 3) pe_int (fun _ _ => rfl)) pa_nil))))))))), ?_⟩
  have Oa := O a rfl
  have TS0 := TS
  obtain ⟨pl, bl, bs, dx, rfl, G⟩ := TS
  refine ⟨_, rfl, told, _, _, _, rfl, rfl, hT, at_of (j := 0) rfl rfl, ?_⟩
  refine ⟨_, rfl, _, _, rfl, rfl, _, rfl, ite2 (fun hc => ?_) (fun hc => ?_)⟩
  · simp only [decide_eq_true_eq] at hc
    refine ⟨(by show 1 ≤ sizeLine; decide), fun p hp => ?_⟩
    have e : Kv351.act (some a) (callAt 7 [(n : Int)]) = (some a, ⟨-22, []⟩) := by
      show Kv351.act (some a) (.best n) = _
      simp only [Kv351.act, Kv351.Abs.does, if_pos (okW_big (show 10000 < n by omega)), Kv351.say]
    rw [e] at k
    exact k.look (zs := [-22]) TS0 rfl rfl (Same.refl H) hp
  simp only [decide_eq_true_eq] at hc
  have hok := okW_ok (show n ≤ 10000 by omega)
  refine ⟨_, rfl, t, dx, _, rfl, G.ins, tf_none (by decide +kernel) (by decide +kernel) (by decide +kernel) (by decide +kernel), t, pl, bl, dx, bs, true, a.want, a.pieces, a.baskets, rfl, G, _, rfl, _, _, rfl, rfl, _, rfl, ite2 (fun hc2 => ?_) (fun hc2 => ?_)⟩
  · simp only [decide_eq_true_eq] at hc2
    refine ⟨(by show 1 ≤ sizeLine; decide), fun p hp => ?_⟩
    have e : Kv351.act (some a) (callAt 7 [(n : Int)]) = (some a, ⟨-33, []⟩) := by
      show Kv351.act (some a) (.best n) = _
      simp only [Kv351.act, Kv351.Abs.does, if_neg hok, best_none (show a.pieces.sum < n by omega), Kv351.say]
    rw [e] at k
    exact k.look (zs := [-33]) TS0 rfl rfl (Same.refl H) hp
  simp only [decide_eq_true_eq] at hc2
  refine ⟨_, rfl, t, C, dx, _, _, rfl, G.ins, T.cl, T.aP, tf_pieces, _, rfl, pl, a.pieces, n, rfl, SqL.of G.pcs, Oa.few, by omega, fun H1 q s0 s1 n0 hb h1 => ?_⟩
  refine ⟨_, rfl, q, _, _, _, rfl, rfl, SqT.of h1, at_of (j := 0) rfl rfl, _, rfl, q, _, _, _, rfl, rfl, SqT.of h1, at_of (j := 2) rfl rfl, _, rfl, q, _, _, _, rfl, rfl, SqT.of h1, at_of (j := 1) rfl rfl, (by show 3 ≤ sizeLine; decide), fun p hp => ?_⟩
  have e : Kv351.act (some a) (callAt 7 [(n : Int)]) = (some a, ⟨(Kv351.weigh a.pieces s0 : Nat), [s0, Kv351.size a.pieces s0]⟩) := by
    show Kv351.act (some a) (.best n) = _
    simp only [Kv351.act, Kv351.Abs.does, if_neg hok, hb]
  rw [e] at k
  exact k.look (zs := [((Kv351.weigh a.pieces s0 : Nat) : Int), (s0 : Int), ((Kv351.size a.pieces s0 : Nat) : Int)]) TS0 rfl rfl s1 hp
/-! ### fewest -/
theorem scFewest : FnScope ["table", "told", "least"] ["table", "told"] (defScope sFewest) := ⟨rfl, rfl, rfl, by decide +kernel, rfl, by decide +kernel, by decide +kernel⟩
theorem ok_c8 {f fa fb : Addr} {fd fda fdb : FuncData} (F : Fun K "call_fewest" "call_fewest" sFewest f fd) (T : Txt K mg C) (c : Cst mg) (MA : Met K C "weigh_all" "Table.weigh_all" sWA ["self"] fa fda)
    (DB : Def K mg "fewest_pieces" sFP ["pieces", "least"] fb fdb) : FnOk P w K mg base CX0 4 f fd ["table", "told"] (spC K C 8) := by
  have GA : FnOk P w K mg base CX0 1 fa fda ["self"] (spWA C) := ok_wa MA.fn T
  have GB : FnOk P w K mg base CX0 1 fb fdb ["pieces", "least"] (spFP K) := ok_fp DB.fn T.bSorted
  refine F.ok scFewest (fun vs H Q E h => len_spC vs H Q E h) (fun cdv A outer s H vs Q E hr h => ?_)
  obtain ⟨t, told, st, w, xs, rfl, TS, O, nb, hne, hT, hx, h0, k⟩ := h
  obtain ⟨n, rfl⟩ := one_arg (q := 8) hx h0
  cases st with
  | none => exact absurd (hne rfl) (by decide)
  | some a =>
  have hr1 : Room 1 _ := hr.mono (by decide)
  refine ⟨_, pss_cons (ps_set (i := 2) scFewest.nd rfl (Or.inl rfl) (pe_ix ix_list (pv 1) pe_int (fun _ _ => rfl)))
    (pss_cons (ps_if (pt_cmpR op_gt (pv 2) (pe_gi (by rfl) c.gramsMost) (nomark _)) (pss_one (ps_ret (pe_lst (pa_cons (pe_gi (by rfl) c.outOf) pa_nil)))) pss_nil)
    (pss_cons (ps_if (pt_cmpR op_lt (pe_meth0 (pv 0) T.cl MA.mt GA hr1 MA.bd .nil pass0) (pv 2) (nomark _)) (pss_one (ps_ret (pe_lst (pa_cons (pe_gi (by rfl) c.notEnough) pa_nil)))) pss_nil)
    (pss_one (ps_ret (pe_callTy call_list_of (by rfl) T.bList PyProof.Rows.boot_list (pa_cons (pe_call GB hr1 rfl DB.gl DB.fn.kp DB.bd .nil pass0 (pa_cons (pe_fld (pv 0) rfl) (pa_cons (pv 2) pa_nil))) pa_nil)))))), ?_⟩
  have Oa := O a rfl
  have TS0 := TS
  obtain ⟨pl, bl, bs, dx, rfl, G⟩ := TS
  refine ⟨_, rfl, told, _, _, _, rfl, rfl, hT, at_of (j := 0) rfl rfl, ?_⟩
  refine ⟨_, rfl, _, _, rfl, rfl, _, rfl, ite2 (fun hc => ?_) (fun hc => ?_)⟩
  · simp only [decide_eq_true_eq] at hc
    refine ⟨(by show 1 ≤ sizeLine; decide), fun p hp => ?_⟩
    have e : Kv351.act (some a) (callAt 8 [(n : Int)]) = (some a, ⟨-22, []⟩) := by
      show Kv351.act (some a) (.fewest n) = _
      simp only [Kv351.act, Kv351.Abs.does, if_pos (okW_big (show 10000 < n by omega)), Kv351.say]
    rw [e] at k
    exact k.look (zs := [-22]) TS0 rfl rfl (Same.refl H) hp
  simp only [decide_eq_true_eq] at hc
  have hok := okW_ok (show n ≤ 10000 by omega)
  refine ⟨_, rfl, t, dx, _, rfl, G.ins, tf_none (by decide +kernel) (by decide +kernel) (by decide +kernel) (by decide +kernel), t, pl, bl, dx, bs, true, a.want, a.pieces, a.baskets, rfl, G, _, rfl, _, _, rfl, rfl, _, rfl, ite2 (fun hc2 => ?_) (fun hc2 => ?_)⟩
  · simp only [decide_eq_true_eq] at hc2
    refine ⟨(by show 1 ≤ sizeLine; decide), fun p hp => ?_⟩
    have e : Kv351.act (some a) (callAt 8 [(n : Int)]) = (some a, ⟨-33, []⟩) := by
      show Kv351.act (some a) (.fewest n) = _
      simp only [Kv351.act, Kv351.Abs.does, if_neg hok, fewest_none (show a.pieces.sum < n by omega), Kv351.say]
    rw [e] at k
    exact k.look (zs := [-33]) TS0 rfl rfl (Same.refl H) hp
  simp only [decide_eq_true_eq] at hc2
  refine ⟨_, rfl, t, C, dx, _, _, rfl, G.ins, T.cl, T.aP, tf_pieces, _, rfl, pl, a.pieces, n, rfl, SqL.of G.pcs, Oa.few, by omega, fun H1 q j s1 n0 hb h1 => ?_⟩
  refine ⟨q, _, rfl, .inr (SqT.of h1), fun p hp => ?_⟩
  have e : Kv351.act (some a) (callAt 8 [(n : Int)]) = (some a, ⟨(j : Nat), [((desc a.pieces).take j).sum]⟩) := by
    show Kv351.act (some a) (.fewest n) = _
    simp only [Kv351.act, Kv351.Abs.does, if_neg hok, hb, total_heavy]
  rw [e] at k
  exact k.look (zs := [(j : Int), ((((desc a.pieces).take j).sum : Nat) : Int)]) TS0 rfl rfl s1 hp
/-! ### most -/
theorem scMost : FnScope ["table", "told", "limit"] ["table", "told"] (defScope sMost) := ⟨rfl, rfl, rfl, by decide +kernel, rfl, by decide +kernel, by decide +kernel⟩
theorem ok_c9 {f fb : Addr} {fd fdb : FuncData} (F : Fun K "call_most" "call_most" sMost f fd) (T : Txt K mg C) (c : Cst mg) (DB : Def K mg "most_pieces" sMP ["pieces", "limit"] fb fdb) : FnOk P w K mg base CX0 4 f fd ["table", "told"] (spC K C 9) := by
  have GB : FnOk P w K mg base CX0 1 fb fdb ["pieces", "limit"] (spMP K) := ok_mp DB.fn T.bSorted
  refine F.ok scMost (fun vs H Q E h => len_spC vs H Q E h) (fun cdv A outer s H vs Q E hr h => ?_)
  obtain ⟨t, told, st, w, xs, rfl, TS, O, nb, hne, hT, hx, h0, k⟩ := h
  obtain ⟨n, rfl⟩ := one_arg (q := 9) hx h0
  cases st with
  | none => exact absurd (hne rfl) (by decide)
  | some a =>
  have hr1 : Room 1 _ := hr.mono (by decide)
  refine ⟨_, pss_cons (ps_set (i := 2) scMost.nd rfl (Or.inl rfl) (pe_ix ix_list (pv 1) pe_int (fun _ _ => rfl)))
    (pss_cons (ps_if (pt_cmpR op_gt (pv 2) (pe_gi (by rfl) c.gramsMost) (nomark _)) (pss_one (ps_ret (pe_lst (pa_cons (pe_gi (by rfl) c.outOf) pa_nil)))) pss_nil)
    (pss_one (ps_ret (pe_callTy call_list_of (by rfl) T.bList PyProof.Rows.boot_list (pa_cons (pe_call GB hr1 rfl DB.gl DB.fn.kp DB.bd .nil pass0 (pa_cons (pe_fld (pv 0) rfl) (pa_cons (pv 2) pa_nil))) pa_nil))))), ?_⟩
  have Oa := O a rfl
  have TS0 := TS
  obtain ⟨pl, bl, bs, dx, rfl, G⟩ := TS
  refine ⟨_, rfl, told, _, _, _, rfl, rfl, hT, at_of (j := 0) rfl rfl, ?_⟩
  refine ⟨_, rfl, _, _, rfl, rfl, _, rfl, ite2 (fun hc => ?_) (fun hc => ?_)⟩
  · simp only [decide_eq_true_eq] at hc
    refine ⟨(by show 1 ≤ sizeLine; decide), fun p hp => ?_⟩
    have e : Kv351.act (some a) (callAt 9 [(n : Int)]) = (some a, ⟨-22, []⟩) := by
      show Kv351.act (some a) (.most n) = _
      simp only [Kv351.act, Kv351.Abs.does, if_pos (okW_big (show 10000 < n by omega)), Kv351.say]
    rw [e] at k
    exact k.look (zs := [-22]) TS0 rfl rfl (Same.refl H) hp
  simp only [decide_eq_true_eq] at hc
  have hok := okW_ok (show n ≤ 10000 by omega)
  refine ⟨_, rfl, t, C, dx, _, _, rfl, G.ins, T.cl, T.aP, tf_pieces, _, rfl, pl, a.pieces, n, rfl, SqL.of G.pcs, Oa.few, fun H1 q s1 n0 h1 => ?_⟩
  refine ⟨q, _, rfl, .inr (SqT.of h1), fun p hp => ?_⟩
  have e : Kv351.act (some a) (callAt 9 [(n : Int)]) = (some a, ⟨(Kv351.most a.pieces n : Nat), [((asc a.pieces).take (Kv351.most a.pieces n)).sum]⟩) := by
    show Kv351.act (some a) (.most n) = _
    simp only [Kv351.act, Kv351.Abs.does, if_neg hok, total_light]
  rw [e] at k
  exact k.look (zs := [((Kv351.most a.pieces n : Nat) : Int), ((((asc a.pieces).take (Kv351.most a.pieces n)).sum : Nat) : Int)]) TS0 rfl rfl s1 hp
/-! ### ways -/
theorem count_ints (l : List Nat) (n : Nat) : (l.map Int.ofNat).count (n : Int) = l.count n := by
  induction l with
  | nil => rfl
  | cons a l ih =>
    rw [List.map_cons, List.count_cons, List.count_cons, ih]
    congr 1
    by_cases h : a = n
    · subst h; simp
    · have : ¬ ((a : Nat) : Int) = (n : Int) := by omega
      simp [h, this]
theorem scWays : FnScope ["table", "told", "grams"] ["table", "told"] (defScope sWays) := ⟨rfl, rfl, rfl, by decide +kernel, rfl, by decide +kernel, by decide +kernel⟩
theorem ok_c10 {f fw : Addr} {fd fdw : FuncData} (F : Fun K "call_ways" "call_ways" sWays f fd) (T : Txt K mg C) (c : Cst mg) (DW : Def K mg "weigh_sets" sWS ["pieces"] fw fdw) : FnOk P w K mg base CX0 4 f fd ["table", "told"] (spC K C 10) := by
  have GW : FnOk P w K mg base CX0 1 fw fdw ["pieces"] (spWS K) := ok_ws DW.fn
  refine F.ok scWays (fun vs H Q E h => len_spC vs H Q E h) (fun cdv A outer s H vs Q E hr h => ?_)
  obtain ⟨t, told, st, w, xs, rfl, TS, O, nb, hne, hT, hx, h0, k⟩ := h
  obtain ⟨n, rfl⟩ := one_arg (q := 10) hx h0
  cases st with
  | none => exact absurd (hne rfl) (by decide)
  | some a =>
  have hr1 : Room 1 _ := hr.mono (by decide)
  refine ⟨_, pss_cons (ps_set (i := 2) scWays.nd rfl (Or.inl rfl) (pe_ix ix_list (pv 1) pe_int (fun _ _ => rfl)))
    (pss_cons (ps_if (pt_cmpR op_gt (pv 2) (pe_gi (by rfl) c.gramsMost) (nomark _)) (pss_one (ps_ret (pe_lst (pa_cons (pe_gi (by rfl) c.outOf) pa_nil)))) pss_nil)
    (pss_one (ps_ret (pe_lst (pa_cons (pe_bm PySem.F.plainAttrs_list PySem.F.slot_list_count PySem.F.type_list_count mt_count (pe_call GW hr1 rfl DW.gl DW.fn.kp DW.bd .nil pass0 (pa_cons (pe_fld (pv 0) rfl) pa_nil)) (pa_cons (pv 2) pa_nil)) pa_nil))))), ?_⟩
  have Oa := O a rfl
  have TS0 := TS
  obtain ⟨pl, bl, bs, dx, rfl, G⟩ := TS
  refine ⟨_, rfl, told, _, _, _, rfl, rfl, hT, at_of (j := 0) rfl rfl, ?_⟩
  refine ⟨_, rfl, _, _, rfl, rfl, _, rfl, ite2 (fun hc => ?_) (fun hc => ?_)⟩
  · simp only [decide_eq_true_eq] at hc
    refine ⟨(by show 1 ≤ sizeLine; decide), fun p hp => ?_⟩
    have e : Kv351.act (some a) (callAt 10 [(n : Int)]) = (some a, ⟨-22, []⟩) := by
      show Kv351.act (some a) (.ways n) = _
      simp only [Kv351.act, Kv351.Abs.does, if_pos (okW_big (show 10000 < n by omega)), Kv351.say]
    rw [e] at k
    exact k.look (zs := [-22]) TS0 rfl rfl (Same.refl H) hp
  simp only [decide_eq_true_eq] at hc
  have hok := okW_ok (show n ≤ 10000 by omega)
  refine ⟨_, rfl, t, C, dx, _, _, rfl, G.ins, T.cl, T.aP, tf_pieces, pl, a.pieces, rfl, SqL.of G.pcs, Oa.few, fun H1 q s1 n0 h1 => ?_⟩
  refine ⟨.inl ⟨rfl, _, SqL.of h1⟩, _, rfl, q, _, _, rfl, rfl, SqL.of h1, (by show 1 ≤ sizeLine; decide), fun p hp => ?_⟩
  have e : Kv351.act (some a) (callAt 10 [(n : Int)]) = (some a, ⟨(Kv351.ways a.pieces n : Nat), []⟩) := by
    show Kv351.act (some a) (.ways n) = _
    simp only [Kv351.act, Kv351.Abs.does, if_neg hok, Kv351.say]
  rw [e] at k
  rw [count_ints, ← ways_eq]
  exact k.look (zs := [((Kv351.ways a.pieces n : Nat) : Int)]) TS0 rfl rfl s1 hp
/-! ### under -/
theorem scUnder : FnScope ["table", "told", "limit"] ["table", "told"] (defScope sUnder) := ⟨rfl, rfl, rfl, by decide +kernel, rfl, by decide +kernel, by decide +kernel⟩
theorem ok_c11 {f fh : Addr} {fd fdh : FuncData} (F : Fun K "call_under" "call_under" sUnder f fd) (T : Txt K mg C) (c : Cst mg) (DH : Def K mg "heaviest_within" sHW ["pieces", "limit"] fh fdh) (GH : FnOk P w K mg base CX0 2 fh fdh ["pieces", "limit"] (spHW K)) :
    FnOk P w K mg base CX0 4 f fd ["table", "told"] (spC K C 11) := by
  refine F.ok scUnder (fun vs H Q E h => len_spC vs H Q E h) (fun cdv A outer s H vs Q E hr h => ?_)
  obtain ⟨t, told, st, w, xs, rfl, TS, O, nb, hne, hT, hx, h0, k⟩ := h
  obtain ⟨n, rfl⟩ := one_arg (q := 11) hx h0
  cases st with
  | none => exact absurd (hne rfl) (by decide)
  | some a =>
  have hr2 : Room 2 _ := hr.mono (by decide)
  refine ⟨_, pss_cons (ps_set (i := 2) scUnder.nd rfl (Or.inl rfl) (pe_ix ix_list (pv 1) pe_int (fun _ _ => rfl)))
    (pss_cons (ps_if (pt_cmpR op_gt (pv 2) (pe_gi (by rfl) c.gramsMost) (nomark _)) (pss_one (ps_ret (pe_lst (pa_cons (pe_gi (by rfl) c.outOf) pa_nil)))) pss_nil)
    (pss_one (ps_ret (pe_lst (pa_cons (pe_call GH hr2 rfl DH.gl DH.fn.kp DH.bd .nil pass0 (pa_cons (pe_fld (pv 0) rfl) (pa_cons (pv 2) pa_nil))) pa_nil))))), ?_⟩
  have Oa := O a rfl
  have TS0 := TS
  obtain ⟨pl, bl, bs, dx, rfl, G⟩ := TS
  refine ⟨_, rfl, told, _, _, _, rfl, rfl, hT, at_of (j := 0) rfl rfl, ?_⟩
  refine ⟨_, rfl, _, _, rfl, rfl, _, rfl, ite2 (fun hc => ?_) (fun hc => ?_)⟩
  · simp only [decide_eq_true_eq] at hc
    refine ⟨(by show 1 ≤ sizeLine; decide), fun p hp => ?_⟩
    have e : Kv351.act (some a) (callAt 11 [(n : Int)]) = (some a, ⟨-22, []⟩) := by
      show Kv351.act (some a) (.under n) = _
      simp only [Kv351.act, Kv351.Abs.does, if_pos (okW_big (show 10000 < n by omega)), Kv351.say]
    rw [e] at k
    exact k.look (zs := [-22]) TS0 rfl rfl (Same.refl H) hp
  simp only [decide_eq_true_eq] at hc
  have hok := okW_ok (show n ≤ 10000 by omega)
  refine ⟨_, rfl, t, C, dx, _, _, rfl, G.ins, T.cl, T.aP, tf_pieces, _, rfl, pl, a.pieces, n, rfl, SqL.of G.pcs, Oa.few, fun H1 s1 => ?_⟩
  refine ⟨(by show 1 ≤ sizeLine; decide), fun p hp => ?_⟩
  have e : Kv351.act (some a) (callAt 11 [(n : Int)]) = (some a, ⟨(Kv351.under a.pieces n : Nat), []⟩) := by
    show Kv351.act (some a) (.under n) = _
    simp only [Kv351.act, Kv351.Abs.does, if_neg hok, Kv351.say]
  rw [e] at k
  exact k.look (zs := [((Kv351.under a.pieces n : Nat) : Int)]) TS0 rfl rfl s1 hp
end
end BW
set_option Elab.async false
set_option linter.all false
set_option maxRecDepth 100000
set_option maxHeartbeats 4000000
namespace BW
open PySem PySem.Spec PyProof.Rows L2
abbrev sHalf : Stmt := top 36
abbrev sRow : Stmt := top 37
abbrev sWeigh : Stmt := top 38
abbrev sCould : Stmt := top 39
theorem under_le (l : List Nat) (w : Nat) : Kv351.under l w ≤ w := by
  unfold Kv351.under
  rcases foldl_max_mem ((Kv351.sets l.length).map fun s => if Kv351.weigh l s ≤ w then Kv351.weigh l s else 0) 0 with h | h
  · omega
  · obtain ⟨s, _, e⟩ := List.mem_map.mp h
    rw [← e]
    split <;> omega
theorem row_len (w : Nat) : ∀ (n : Nat) (l : List Nat), (Kv351.row w n l).length ≤ n
  | 0, _ => Nat.le_refl _
  | n + 1, l => by
    show (match Kv351.best l w with
      | none => []
      | some s => if s = 0 then [] else Kv351.weigh l s :: Kv351.row w n (Kv351.without l s)).length ≤ n + 1
    cases Kv351.best l w with
    | none => simp
    | some s =>
      by_cases h : s = 0
      · simp [h]
      · have := row_len w n (Kv351.without l s)
        simp only [if_neg h, List.length_cons]
        omega
/-- a call that only looks, and answers some numbers with a list behind them -/
theorem Post.cat {C t : Addr} {H H1 : Hp} {w : List Addr} {st st' : Kv351.State} {ans zs : List Int} {l : List Nat} {Q : VK} {p q : Addr} {o : HO} (h : Post C H t w st' ans Q) (T : TabS C H t w st) (e1 : st' = st) (e2 : ans = zs ++ l.map Int.ofNat) (s : Same H H1) (hq : H1 q = none) (hp : (upd H1 q o) p = none) :
    Q (.ref p) (upd (upd H1 q o) p (.lst (zs.map V.int ++ vi l))) := by
  have e : zs.map V.int ++ vi l = (zs ++ l.map Int.ofNat).map V.int := by
    rw [List.map_append]
    rfl
  rw [e]
  exact h.look T e1 e2 (same_put s (s.free hq)) hp
theorem tfm {b : Bool} {w : Nat} {pl bl : Addr} : (tf b w pl bl).lookup ("weigh_all" : Str) = none := tf_none (by decide +kernel) (by decide +kernel) (by decide +kernel) (by decide +kernel)
theorem tfc {b : Bool} {w : Nat} {pl bl : Addr} : (tf b w pl bl).lookup ("count_came" : Str) = none := tf_none (by decide +kernel) (by decide +kernel) (by decide +kernel) (by decide +kernel)
section
variable {P : Program} {w : World} {K : PySem.W.Frag} {mg : Str → Option Value} {base : Heap} {C : Addr}
/-! ### half -/
theorem scHalf : FnScope ["table", "told", "total", "lighter"] ["table", "told"] (defScope sHalf) := ⟨rfl, rfl, rfl, by decide +kernel, rfl, by decide +kernel, by decide +kernel⟩
theorem ok_c12 {f fa fh : Addr} {fd fda fdh : FuncData} (F : Fun K "call_half" "call_half" sHalf f fd) (T : Txt K mg C) (MA : Met K C "weigh_all" "Table.weigh_all" sWA ["self"] fa fda) (DH : Def K mg "heaviest_within" sHW ["pieces", "limit"] fh fdh)
    (GH : FnOk P w K mg base CX0 2 fh fdh ["pieces", "limit"] (spHW K)) : FnOk P w K mg base CX0 4 f fd ["table", "told"] (spC K C 12) := by
  have GA : FnOk P w K mg base CX0 1 fa fda ["self"] (spWA C) := ok_wa MA.fn T
  refine F.ok scHalf (fun vs H Q E h => len_spC vs H Q E h) (fun cdv A outer s H vs Q E hr h => ?_)
  obtain ⟨t, told, st, w, xs, rfl, TS, O, nb, hne, hT, hx, h0, k⟩ := h
  obtain rfl := no_arg hx
  cases st with
  | none => exact absurd (hne rfl) (by decide)
  | some a =>
  have hr1 : Room 1 _ := hr.mono (by decide)
  have hr2 : Room 2 _ := hr.mono (by decide)
  refine ⟨_, pss_cons (ps_set (i := 2) scHalf.nd rfl (Or.inl rfl) (pe_meth0 (pv 0) T.cl MA.mt GA hr1 MA.bd .nil pass0))
    (pss_cons (ps_set (i := 3) scHalf.nd rfl (Or.inl rfl) (pe_call GH hr2 rfl DH.gl DH.fn.kp DH.bd .nil pass0 (pa_cons (pe_fld (pv 0) rfl) (pa_cons (pe_op op_fdiv (pv 2) pe_int) pa_nil))))
    (pss_one (ps_ret (pe_lst (pa_cons (pv 3) (pa_cons (pe_op op_sub (pv 2) (pv 3)) pa_nil)))))), ?_⟩
  have Oa := O a rfl
  have TS0 := TS
  obtain ⟨pl, bl, bs, dx, rfl, G⟩ := TS
  refine ⟨_, rfl, t, dx, _, rfl, G.ins, tfm, t, pl, bl, dx, bs, true, a.want, a.pieces, a.baskets, rfl, G, ?_⟩
  have eh : ((a.pieces.sum : Nat) : Int) / 2 = ((a.pieces.sum / 2 : Nat) : Int) := by omega
  refine ⟨_, rfl, t, C, dx, _, _, rfl, G.ins, T.cl, T.aP, tf_pieces, _, rfl, _, _, rfl, rfl, ⟨by decide, by decide⟩, pl, a.pieces, a.pieces.sum / 2, ?_, SqL.of G.pcs, Oa.few, fun H1 s1 => ?_⟩
  · show [V.ref pl, V.int (((a.pieces.sum : Nat) : Int) / 2)] = _
    rw [eh]
  refine ⟨_, rfl, _, rfl, _, rfl, _, _, rfl, rfl, (by show 2 ≤ sizeLine; decide), fun p hp => ?_⟩
  have e : Kv351.act (some a) (callAt 12 []) = (some a, ⟨(Kv351.half a.pieces : Nat), [a.pieces.sum - Kv351.half a.pieces]⟩) := rfl
  rw [e] at k
  have e2 : ((a.pieces.sum : Nat) : Int) - ((Kv351.under a.pieces (a.pieces.sum / 2) : Nat) : Int) = ((a.pieces.sum - Kv351.half a.pieces : Nat) : Int) := by
    have := under_le a.pieces (a.pieces.sum / 2)
    show _ = ((a.pieces.sum - Kv351.under a.pieces (a.pieces.sum / 2) : Nat) : Int)
    omega
  show Q (.ref p) (upd _ p (.lst [V.int ((Kv351.under a.pieces (a.pieces.sum / 2) : Nat) : Int), V.int (((a.pieces.sum : Nat) : Int) - ((Kv351.under a.pieces (a.pieces.sum / 2) : Nat) : Int))]))
  rw [e2]
  exact k.look (zs := [((Kv351.half a.pieces : Nat) : Int), ((a.pieces.sum - Kv351.half a.pieces : Nat) : Int)]) TS0 rfl rfl s1 hp
/-! ### row -/
theorem scRow : FnScope ["table", "told", "row"] ["table", "told"] (defScope sRow) := ⟨rfl, rfl, rfl, by decide +kernel, rfl, by decide +kernel, by decide +kernel⟩
theorem ok_c13 {f fr : Addr} {fd fdr : FuncData} (F : Fun K "call_row" "call_row" sRow f fd) (T : Txt K mg C) (DR : Def K mg "weigh_row" sWR ["pieces", "wanted"] fr fdr) (GR : FnOk P w K mg base CX0 4 fr fdr ["pieces", "wanted"] (spWR K)) :
    FnOk P w K mg base CX0 5 f fd ["table", "told"] (spC K C 13) := by
  refine F.ok scRow (fun vs H Q E h => len_spC vs H Q E h) (fun cdv A outer s H vs Q E hr h => ?_)
  obtain ⟨t, told, st, w, xs, rfl, TS, O, nb, hne, hT, hx, h0, k⟩ := h
  obtain rfl := no_arg hx
  cases st with
  | none => exact absurd (hne rfl) (by decide)
  | some a =>
  refine ⟨_, pss_cons (ps_set (i := 2) scRow.nd rfl (Or.inl rfl) (pe_call GR hr rfl DR.gl DR.fn.kp DR.bd .nil pass0 (pa_cons (pe_fld (pv 0) rfl) (pa_cons (pe_fld (pv 0) rfl) pa_nil))))
    (pss_one (ps_ret (pe_op op_cat (pe_lst (pa_cons (pe_callB call_len_seq (by rfl) T.bLen PySem.boot_len (pa_cons (pv 2) pa_nil)) pa_nil)) (pv 2)))), ?_⟩
  have Oa := O a rfl
  have TS0 := TS
  obtain ⟨pl, bl, bs, dx, rfl, G⟩ := TS
  refine ⟨_, rfl, t, C, dx, _, _, rfl, G.ins, T.cl, T.aP, tf_pieces, _, rfl, t, C, dx, _, _, rfl, G.ins, T.cl, T.aW, tf_wanted, pl, a.pieces, a.want, rfl, G.pcs, Oa.few, Oa.w1, fun H1 r s1 n0 h1 => ?_⟩
  refine ⟨_, rfl, r, _, rfl, .inl (SqL.of h1), (by show 1 ≤ sizeLine; decide), fun q hq => ?_⟩
  have hl := row_len a.want 9 a.pieces
  refine ⟨_, rfl, q, r, _, _, rfl, rfl, upd_same, Eq.trans (upd_ne (ne_of_none h1 hq)) h1, ?_, fun p hp => ?_⟩
  · rw [vi_length]
    show 1 + (Kv351.row a.want 9 a.pieces).length ≤ sizeLine
    exact Nat.le_of_lt (small_line (by omega))
  have e : Kv351.act (some a) (callAt 13 []) = (some a, Kv351.list (Kv351.row a.want 9 a.pieces)) := rfl
  rw [e] at k
  rw [vi_length] at hp ⊢
  exact k.cat (zs := [((Kv351.row a.want 9 a.pieces).length : Int)]) (l := Kv351.row a.want 9 a.pieces) TS0 rfl rfl s1 hq hp
/-! ### weigh -/
theorem scWeigh : FnScope ["table", "told", "chosen", "weights"] ["table", "told"] (defScope sWeigh) := ⟨rfl, rfl, rfl, by decide +kernel, rfl, by decide +kernel, by decide +kernel⟩
theorem ok_c14 {f fw fc : Addr} {fd fdw fdc : FuncData} (F : Fun K "call_weigh" "call_weigh" sWeigh f fd) (T : Txt K mg C) (c : Cst mg) (DW : Def K mg "weigh_sets" sWS ["pieces"] fw fdw) (DC : Def K mg "count_sets" sCS ["pieces"] fc fdc) :
    FnOk P w K mg base CX0 4 f fd ["table", "told"] (spC K C 14) := by
  have GW : FnOk P w K mg base CX0 1 fw fdw ["pieces"] (spWS K) := ok_ws DW.fn
  have GC : FnOk P w K mg base CX0 2 fc fdc ["pieces"] (spCS K) := ok_cs DC.fn DW.fn DW.bd DW.gl T.bLen
  refine F.ok scWeigh (fun vs H Q E h => len_spC vs H Q E h) (fun cdv A outer s H vs Q E hr h => ?_)
  obtain ⟨t, told, st, w, xs, rfl, TS, O, nb, hne, hT, hx, h0, k⟩ := h
  obtain ⟨n, rfl⟩ := one_arg (q := 14) hx h0
  cases st with
  | none => exact absurd (hne rfl) (by decide)
  | some a =>
  have hr1 : Room 1 _ := hr.mono (by decide)
  have hr2 : Room 2 _ := hr.mono (by decide)
  refine ⟨_, pss_cons (ps_set (i := 2) scWeigh.nd rfl (Or.inl rfl) (pe_ix ix_list (pv 1) pe_int (fun _ _ => rfl)))
    (pss_cons (ps_set (i := 3) scWeigh.nd rfl (Or.inl rfl) (pe_call GW hr1 rfl DW.gl DW.fn.kp DW.bd .nil pass0 (pa_cons (pe_fld (pv 0) rfl) pa_nil)))
    (pss_cons (ps_if (pt_cmpR op_ge (pv 2) (pe_callB call_len_seq (by rfl) T.bLen PySem.boot_len (pa_cons (pv 3) pa_nil)) (nomark _)) (pss_one (ps_ret (pe_lst (pa_cons (pe_gi (by rfl) c.outOf) pa_nil)))) pss_nil)
    (pss_one (ps_ret (pe_lst (pa_cons (pe_ix ix_list (pv 3) (pv 2) (fun _ _ => rfl)) (pa_cons (pe_ix ix_list (pe_call GC hr2 rfl DC.gl DC.fn.kp DC.bd .nil pass0 (pa_cons (pe_fld (pv 0) rfl) pa_nil)) (pv 2) (fun _ _ => rfl)) pa_nil))))))), ?_⟩
  have Oa := O a rfl
  have TS0 := TS
  obtain ⟨pl, bl, bs, dx, rfl, G⟩ := TS
  refine ⟨_, rfl, told, _, _, _, rfl, rfl, hT, at_of (j := 0) rfl rfl, ?_⟩
  refine ⟨_, rfl, t, C, dx, _, _, rfl, G.ins, T.cl, T.aP, tf_pieces, pl, a.pieces, rfl, SqL.of G.pcs, Oa.few, fun H1 q s1 n0 h1 => ?_⟩
  have G1 := G.same s1
  refine ⟨_, rfl, _, rfl, q, _, rfl, .inl (SqL.of h1), _, _, rfl, rfl, _, rfl, ite2 (fun hc => ?_) (fun hc => ?_)⟩
  · simp only [decide_eq_true_eq, vi_length, weighs_length] at hc
    refine ⟨(by show 1 ≤ sizeLine; decide), fun p hp => ?_⟩
    have hn : 2 ^ a.n ≤ n := by show 2 ^ a.pieces.length ≤ n; exact Int.ofNat_le.mp hc
    have e : Kv351.act (some a) (callAt 14 [(n : Int)]) = (some a, ⟨-22, []⟩) := by
      show Kv351.act (some a) (.weigh n) = _
      simp only [Kv351.act, Kv351.Abs.does, if_pos hn, Kv351.say]
    rw [e] at k
    exact k.look (zs := [-22]) TS0 rfl rfl s1 hp
  simp only [decide_eq_true_eq, vi_length, weighs_length] at hc
  have hn : ¬ 2 ^ a.n ≤ n := fun h => hc (Int.ofNat_le.mpr h)
  have hn' : n < 2 ^ a.pieces.length := Nat.lt_of_not_le hn
  have hw : (vi (weighs a.pieces))[n]? = some (V.int (Kv351.weigh a.pieces n : Int)) := vi_get (weighs_get hn')
  have hs : (vi (weighs (List.replicate a.pieces.length 1)))[n]? = some (V.int (Kv351.size a.pieces n : Int)) := by
    rw [size_eq]
    exact vi_get (weighs_get (by rw [List.length_replicate]; exact hn'))
  refine ⟨_, rfl, _, rfl, q, _, _, _, rfl, rfl, SqL.of h1, at_of (j := n) rfl hw, _, rfl, t, C, dx, _, _, rfl, G1.ins, T.cl, T.aP, tf_pieces, pl, a.pieces, rfl, SqL.of G1.pcs, Oa.few, fun H2 q2 s2 n2 h2 => ?_⟩
  refine ⟨_, rfl, q2, _, _, _, rfl, rfl, SqL.of h2, at_of (j := n) rfl hs, (by show 2 ≤ sizeLine; decide), fun p hp => ?_⟩
  have e : Kv351.act (some a) (callAt 14 [(n : Int)]) = (some a, ⟨(Kv351.weigh a.pieces n : Nat), [Kv351.size a.pieces n]⟩) := by
    show Kv351.act (some a) (.weigh n) = _
    simp only [Kv351.act, Kv351.Abs.does, if_neg hn]
  rw [e] at k
  exact k.look (zs := [((Kv351.weigh a.pieces n : Nat) : Int), ((Kv351.size a.pieces n : Nat) : Int)]) TS0 rfl rfl (s1.trans s2) hp
/-! ### could -/
theorem scCould : FnScope ["table", "told", "least"] ["table", "told"] (defScope sCould) := ⟨rfl, rfl, rfl, by decide +kernel, rfl, by decide +kernel, by decide +kernel⟩
theorem ok_c15 {f fa : Addr} {fd fda : FuncData} (F : Fun K "call_could" "call_could" sCould f fd) (T : Txt K mg C) (c : Cst mg) (MA : Met K C "weigh_all" "Table.weigh_all" sWA ["self"] fa fda) : FnOk P w K mg base CX0 4 f fd ["table", "told"] (spC K C 15) := by
  have GA : FnOk P w K mg base CX0 1 fa fda ["self"] (spWA C) := ok_wa MA.fn T
  refine F.ok scCould (fun vs H Q E h => len_spC vs H Q E h) (fun cdv A outer s H vs Q E hr h => ?_)
  obtain ⟨t, told, st, w, xs, rfl, TS, O, nb, hne, hT, hx, h0, k⟩ := h
  obtain ⟨n, rfl⟩ := one_arg (q := 15) hx h0
  cases st with
  | none => exact absurd (hne rfl) (by decide)
  | some a =>
  have hr1 : Room 1 _ := hr.mono (by decide)
  refine ⟨_, pss_cons (ps_set (i := 2) scCould.nd rfl (Or.inl rfl) (pe_ix ix_list (pv 1) pe_int (fun _ _ => rfl)))
    (pss_cons (ps_if (pt_cmpR op_gt (pv 2) (pe_gi (by rfl) c.gramsMost) (nomark _)) (pss_one (ps_ret (pe_lst (pa_cons (pe_gi (by rfl) c.outOf) pa_nil)))) pss_nil)
    (pss_cons (ps_if (pt_cmpR op_lt (pe_meth0 (pv 0) T.cl MA.mt GA hr1 MA.bd .nil pass0) (pv 2) (nomark _)) (pss_one (ps_ret (pe_lst (pa_cons pe_int pa_nil)))) pss_nil)
    (pss_one (ps_ret (pe_lst (pa_cons pe_int pa_nil)))))), ?_⟩
  have TS0 := TS
  obtain ⟨pl, bl, bs, dx, rfl, G⟩ := TS
  refine ⟨_, rfl, told, _, _, _, rfl, rfl, hT, at_of (j := 0) rfl rfl, ?_⟩
  refine ⟨_, rfl, _, _, rfl, rfl, _, rfl, ite2 (fun hc => ?_) (fun hc => ?_)⟩
  · simp only [decide_eq_true_eq] at hc
    refine ⟨(by show 1 ≤ sizeLine; decide), fun p hp => ?_⟩
    have e : Kv351.act (some a) (callAt 15 [(n : Int)]) = (some a, ⟨-22, []⟩) := by
      show Kv351.act (some a) (.could n) = _
      simp only [Kv351.act, Kv351.Abs.does, if_pos (okW_big (show 10000 < n by omega)), Kv351.say]
    rw [e] at k
    exact k.look (zs := [-22]) TS0 rfl rfl (Same.refl H) hp
  simp only [decide_eq_true_eq] at hc
  have hok := okW_ok (show n ≤ 10000 by omega)
  refine ⟨_, rfl, t, dx, _, rfl, G.ins, tfm, t, pl, bl, dx, bs, true, a.want, a.pieces, a.baskets, rfl, G, _, rfl, _, _, rfl, rfl, _, rfl, ite2 (fun hc2 => ?_) (fun hc2 => ?_)⟩
  · simp only [decide_eq_true_eq] at hc2
    refine ⟨(by show 1 ≤ sizeLine; decide), fun p hp => ?_⟩
    have e : Kv351.act (some a) (callAt 15 [(n : Int)]) = (some a, ⟨0, []⟩) := by
      show Kv351.act (some a) (.could n) = _
      simp only [Kv351.act, Kv351.Abs.does, if_neg hok, if_neg (show ¬ n ≤ a.pieces.sum by omega), Kv351.say]
      rfl
    rw [e] at k
    exact k.look (zs := [0]) TS0 rfl rfl (Same.refl H) hp
  simp only [decide_eq_true_eq] at hc2
  refine ⟨(by show 1 ≤ sizeLine; decide), fun p hp => ?_⟩
  have e : Kv351.act (some a) (callAt 15 [(n : Int)]) = (some a, ⟨1, []⟩) := by
    show Kv351.act (some a) (.could n) = _
    simp only [Kv351.act, Kv351.Abs.does, if_neg hok, if_pos (show n ≤ a.pieces.sum by omega), Kv351.say]
    rfl
  rw [e] at k
  exact k.look (zs := [1]) TS0 rfl rfl (Same.refl H) hp
end
end BW
set_option Elab.async false
set_option linter.all false
set_option maxRecDepth 100000
set_option maxHeartbeats 4000000
namespace BW
open PySem PySem.Spec PyProof.Rows L2
abbrev sNeed : Stmt := top 40
abbrev sHeaviest : Stmt := top 41
abbrev sBetween : Stmt := top 42
abbrev sMiddle : Stmt := top 43
/-! ### how many more are needed -/
theorem need_up {lack n : Nat} (h1 : 1 ≤ n) (h2 : lack ≤ 1000 * n) : (lack + n - 1) / n ≤ 1000 ∧ lack ≤ (lack + n - 1) / n * n ∧ ∀ j, j < (lack + n - 1) / n → j * n < lack := by
  have hd := Nat.div_add_mod (lack + n - 1) n
  have hm := Nat.mod_lt (lack + n - 1) (show 0 < n by omega)
  have hc : n * ((lack + n - 1) / n) = (lack + n - 1) / n * n := Nat.mul_comm _ _
  refine ⟨?_, by omega, fun j hj => ?_⟩
  · have : (lack + n - 1) / n < 1001 := (Nat.div_lt_iff_lt_mul (by omega)).mpr (by omega)
    omega
  · have h3 : (j + 1) * n ≤ (lack + n - 1) / n * n := Nat.mul_le_mul_right n hj
    rw [Nat.add_mul, Nat.one_mul] at h3
    omega
/-- the first place of a number -/
theorem first_at {l : List Nat} {g : Nat} (h : g ∈ l) : ∃ j : Nat, l[j]? = some g ∧ ∀ i : Nat, i < j → ∀ y, l[i]? = some y → y ≠ g := by
  induction l with
  | nil => cases h
  | cons a l ih =>
    by_cases e : a = g
    · exact ⟨0, by rw [← e]; rfl, fun i hi => absurd hi (Nat.not_lt_zero _)⟩
    · have hm : g ∈ l := by
        rcases List.mem_cons.mp h with h | h
        · exact absurd h.symm e
        · exact h
      obtain ⟨j, h1, h2⟩ := ih hm
      refine ⟨j + 1, h1, fun i hi y hy => ?_⟩
      cases i with
      | zero => cases hy; exact e
      | succ i => exact h2 i (by omega) y hy
theorem getD_of {l : List Nat} {i x : Nat} (h : l[i]? = some x) : l.getD i 0 = x := by simp [List.getD, h]
/-- the places of the pieces that weigh from x to y, of the first so many -/
def mids (l : List Nat) (x y i : Nat) : List Nat := (List.range i).filter fun i => decide (x ≤ l.getD i 0) && decide (l.getD i 0 ≤ y)
theorem mids_succ {l : List Nat} {x y i g : Nat} (h : l[i]? = some g) : mids l x y (i + 1) = if x ≤ g ∧ g ≤ y then mids l x y i ++ [i] else mids l x y i := by
  unfold mids
  rw [List.range_succ, List.filter_append]
  have e := getD_of h
  by_cases hc : x ≤ g ∧ g ≤ y
  · rw [if_pos hc]
    obtain ⟨h1, h2⟩ := hc
    rw [List.filter_cons_of_pos (by rw [e, decide_eq_true h1, decide_eq_true h2]; rfl), List.filter_nil]
  · rw [if_neg hc]
    have : (decide (x ≤ g) && decide (g ≤ y)) = false := by
      rw [Bool.and_eq_false_iff, decide_eq_false_iff_not, decide_eq_false_iff_not]
      omega
    rw [List.filter_cons_of_neg (by rw [e, this]; decide), List.filter_nil, List.append_nil]
theorem mids_length (l : List Nat) (x y i : Nat) : (mids l x y i).length ≤ i := by
  have := List.length_filter_le (fun i => decide (x ≤ l.getD i 0) && decide (l.getD i 0 ≤ y)) (List.range i)
  rw [List.length_range] at this
  exact this
theorem two_args {xs : List Int} (h : some 2 = some xs.length) (h0 : ∀ x ∈ xs, 0 ≤ x) : ∃ n m : Nat, xs = [(n : Int), (m : Int)] := by
  have h := Option.some.inj h
  match xs, h, h0 with
  | [x, y], _, h0 => exact ⟨x.toNat, y.toNat, by rw [Int.toNat_of_nonneg (h0 x (by simp)), Int.toNat_of_nonneg (h0 y (by simp))]⟩
section
variable {P : Program} {w : World} {K : PySem.W.Frag} {mg : Str → Option Value} {base : Heap} {C : Addr}
/-! ### need -/
theorem scNeed : FnScope ["table", "told", "grams", "lacking"] ["table", "told"] (defScope sNeed) := ⟨rfl, rfl, rfl, by decide +kernel, rfl, by decide +kernel, by decide +kernel⟩
theorem ok_c16 {f fa : Addr} {fd fda : FuncData} (F : Fun K "call_need" "call_need" sNeed f fd) (T : Txt K mg C) (c : Cst mg) (MA : Met K C "weigh_all" "Table.weigh_all" sWA ["self"] fa fda) : FnOk P w K mg base CX0 4 f fd ["table", "told"] (spC K C 16) := by
  have GA : FnOk P w K mg base CX0 1 fa fda ["self"] (spWA C) := ok_wa MA.fn T
  refine F.ok scNeed (fun vs H Q E h => len_spC vs H Q E h) (fun cdv A outer s H vs Q E hr h => ?_)
  obtain ⟨t, told, st, w, xs, rfl, TS, O, nb, hne, hT, hx, h0, k⟩ := h
  obtain ⟨n, rfl⟩ := one_arg (q := 16) hx h0
  cases st with
  | none => exact absurd (hne rfl) (by decide)
  | some a =>
  have hr1 : Room 1 _ := hr.mono (by decide)
  refine ⟨_, pss_cons (ps_set (i := 2) scNeed.nd rfl (Or.inl rfl) (pe_ix ix_list (pv 1) pe_int (fun _ _ => rfl)))
    (pss_cons (ps_if (pw_or (pt_cmpR op_lt (pv 2) pe_int (nomark _)) (pw_or1 (pt_cmpR op_gt (pv 2) (pe_gi (by rfl) c.pieceMost) (nomark _)))).pt (pss_one (ps_ret (pe_lst (pa_cons (pe_gi (by rfl) c.outOf) pa_nil)))) pss_nil)
    (pss_cons (ps_set (i := 3) scNeed.nd rfl (Or.inl rfl) (pe_callB (call_max2 rfl) (by rfl) T.bMax PyProof.Rows.boot_max (pa_cons pe_int (pa_cons (pe_op op_sub (pe_fld (pv 0) rfl) (pe_meth0 (pv 0) T.cl MA.mt GA hr1 MA.bd .nil pass0)) pa_nil))))
    (pss_cons (ps_if (pt_cmpR op_gt (pv 3) (pe_op op_mul (pe_gi (by rfl) c.mostNeeded) (pv 2)) (nomark _)) (pss_one (ps_ret (pe_lst (pa_cons (pe_gi (by rfl) c.notEnough) pa_nil)))) pss_nil)
    (pss_one (ps_ret (pe_lst (pa_cons (pe_op op_fdiv (pe_op op_sub (pe_op op_add (pv 3) (pv 2)) pe_int) (pv 2)) pa_nil))))))), ?_⟩
  have TS0 := TS
  obtain ⟨pl, bl, bs, dx, rfl, G⟩ := TS
  have bad : n = 0 ∨ 1000 < n → ∀ p, H p = none → Q (.ref p) (upd H p (.lst [.int (-22)])) := fun hb p hp => by
    have e : Kv351.act (some a) (callAt 16 [(n : Int)]) = (some a, ⟨-22, []⟩) := by
      show Kv351.act (some a) (.need n) = _
      simp only [Kv351.act, Kv351.Abs.does, if_pos hb, Kv351.say]
    rw [e] at k
    exact k.look (zs := [-22]) TS0 rfl rfl (Same.refl H) hp
  refine ⟨_, rfl, told, _, _, _, rfl, rfl, hT, at_of (j := 0) rfl rfl, ?_⟩
  refine ⟨_, rfl, _, _, rfl, rfl, _, rfl, ite2 (fun hc => ?_) (fun hc => ?_)⟩
  · simp only [decide_eq_true_eq] at hc
    exact ⟨(by show 1 ≤ sizeLine; decide), bad (by omega)⟩
  simp only [decide_eq_true_eq] at hc
  refine ⟨_, rfl, _, _, rfl, rfl, _, rfl, ite2 (fun hc2 => ?_) (fun hc2 => ?_)⟩
  · simp only [decide_eq_true_eq] at hc2
    exact ⟨(by show 1 ≤ sizeLine; decide), bad (by omega)⟩
  simp only [decide_eq_true_eq] at hc2
  have hgood : ¬ (n = 0 ∨ 1000 < n) := by omega
  refine ⟨_, rfl, t, C, dx, _, _, rfl, G.ins, T.cl, T.aW, tf_wanted, _, rfl, t, dx, _, rfl, G.ins, tfm, t, pl, bl, dx, bs, true, a.want, a.pieces, a.baskets, rfl, G, _, _, rfl, rfl, _, _, rfl, ?_⟩
  have el : (if ((a.want : Int) - ((a.pieces.sum : Nat) : Int)) > 0 then ((a.want : Int) - ((a.pieces.sum : Nat) : Int)) else 0) = ((a.want - a.pieces.sum : Nat) : Int) := by
    split <;> omega
  rw [el]
  generalize hlk : a.want - a.pieces.sum = lack
  refine ⟨_, rfl, _, rfl, _, _, rfl, rfl, .inl ⟨by decide, by decide⟩, _, _, rfl, rfl, _, rfl, ite2 (fun hc3 => ?_) (fun hc3 => ?_)⟩
  · simp only [decide_eq_true_eq] at hc3
    refine ⟨(by show 1 ≤ sizeLine; decide), fun p hp => ?_⟩
    have e : Kv351.act (some a) (callAt 16 [(n : Int)]) = (some a, ⟨-33, []⟩) := by
      show Kv351.act (some a) (.need n) = _
      simp only [Kv351.act, Kv351.Abs.does, if_neg hgood, need_none (show a.pieces.sum + 1000 * n < a.want by omega), Kv351.say]
    rw [e] at k
    exact k.look (zs := [-33]) TS0 rfl rfl (Same.refl H) hp
  simp only [decide_eq_true_eq] at hc3
  refine ⟨_, rfl, _, rfl, _, _, rfl, rfl, _, _, rfl, rfl, _, rfl, _, _, rfl, rfl, ⟨?_, ?_⟩, (by show 1 ≤ sizeLine; decide), fun p hp => ?_⟩
  · show (0 : Int) < (n : Int)
    omega
  · show (n : Int) < 1073741824
    omega
  obtain ⟨u1, u2, u3⟩ := need_up (lack := lack) (n := n) (by omega) (by omega)
  have hfind := need_is (w := a.want) (t := a.pieces.sum) (g := n) u1 (by omega) fun j hj => by
    have := u3 j hj
    omega
  have e : Kv351.act (some a) (callAt 16 [(n : Int)]) = (some a, ⟨((lack + n - 1) / n : Nat), []⟩) := by
    show Kv351.act (some a) (.need n) = _
    simp only [Kv351.act, Kv351.Abs.does, if_neg hgood, hfind, Kv351.say]
  rw [e] at k
  have ez : ((lack : Int) + (n : Int) - 1) / (n : Int) = (((lack + n - 1) / n : Nat) : Int) := by
    rw [show (lack : Int) + (n : Int) - 1 = ((lack + n - 1 : Nat) : Int) by omega]
    rfl
  show Q (.ref p) (upd _ p (.lst [V.int (((lack : Int) + (n : Int) - 1) / (n : Int))]))
  rw [ez]
  exact k.look (zs := [(((lack + n - 1) / n : Nat) : Int)]) TS0 rfl rfl (Same.refl H) hp
/-! ### heaviest -/
theorem scHeaviest : FnScope ["table", "told", "grams"] ["table", "told"] (defScope sHeaviest) := ⟨rfl, rfl, rfl, by decide +kernel, rfl, by decide +kernel, by decide +kernel⟩
theorem ok_c17 {f : Addr} {fd : FuncData} (F : Fun K "call_heaviest" "call_heaviest" sHeaviest f fd) (T : Txt K mg C) (c : Cst mg) : FnOk P w K mg base CX0 4 f fd ["table", "told"] (spC K C 17) := by
  refine F.ok scHeaviest (fun vs H Q E h => len_spC vs H Q E h) (fun cdv A outer s H vs Q E hr h => ?_)
  obtain ⟨t, told, st, w, xs, rfl, TS, O, nb, hne, hT, hx, h0, k⟩ := h
  obtain rfl := no_arg hx
  cases st with
  | none => exact absurd (hne rfl) (by decide)
  | some a =>
  refine ⟨_, pss_cons (ps_if (pt_cmpR op_eq (pe_callB call_len_seq (by rfl) T.bLen PySem.boot_len (pa_cons (pe_fld (pv 0) rfl) pa_nil)) pe_int (nomark _)) (pss_one (ps_ret (pe_lst (pa_cons (pe_gi (by rfl) c.noneThere) pa_nil)))) pss_nil)
    (pss_cons (ps_set (i := 2) scHeaviest.nd rfl (Or.inl rfl) (pe_callB (cr_max rfl) (by rfl) T.bMax PyProof.Rows.boot_max (pa_cons (pe_fld (pv 0) rfl) pa_nil)))
    (pss_one (ps_ret (pe_lst (pa_cons (pe_bm PySem.F.plainAttrs_list PySem.F.slot_list_index PySem.F.type_list_index mt_index (pe_fld (pv 0) rfl) (pa_cons (pv 2) pa_nil)) (pa_cons (pv 2) pa_nil)))))), ?_⟩
  have TS0 := TS
  obtain ⟨pl, bl, bs, dx, rfl, G⟩ := TS
  refine ⟨_, rfl, t, C, dx, _, _, rfl, G.ins, T.cl, T.aP, tf_pieces, pl, _, rfl, .inl (SqL.of G.pcs), rfl, _, rfl, ite2 (fun hc => ?_) (fun hc => ?_)⟩
  · simp only [decide_eq_true_eq, V.int.injEq, vi_length] at hc
    refine ⟨(by show 1 ≤ sizeLine; decide), fun p hp => ?_⟩
    have hnil : a.pieces = [] := List.length_eq_zero_iff.mp (by omega)
    have e : Kv351.act (some a) (callAt 17 []) = (some a, ⟨-6, []⟩) := by
      show Kv351.act (some a) .heaviest = _
      simp only [Kv351.act, Kv351.Abs.does, hnil, heavy_nil, Kv351.say]
    rw [e] at k
    exact k.look (zs := [-6]) TS0 rfl rfl (Same.refl H) hp
  simp only [decide_eq_true_eq, V.int.injEq, vi_length] at hc
  refine ⟨_, rfl, t, C, dx, _, _, rfl, G.ins, T.cl, T.aP, tf_pieces, pl, a.pieces.map Int.ofNat, rfl, SqL.of G.pcs, ?_, fun m hm hmax => ?_⟩
  · rw [List.length_map]
    omega
  obtain ⟨g, hg, rfl⟩ := List.mem_map.mp hm
  obtain ⟨j, hj, hfirst⟩ := first_at hg
  have hmax' : ∀ y ∈ a.pieces, y ≤ g := fun y hy => Int.ofNat_le.mp (hmax (Int.ofNat y) (List.mem_map.mpr ⟨y, hy, rfl⟩))
  refine ⟨_, rfl, t, C, dx, _, _, rfl, G.ins, T.cl, T.aP, tf_pieces, .inl ⟨rfl, _, SqL.of G.pcs⟩, _, rfl, pl, vi a.pieces, V.int (g : Int), j, V.int (g : Int), rfl, rfl, SqL.of G.pcs, rfl, ?_, vi_get hj, ?_, fun m z hm hz => ?_, ?_⟩
  · rw [List.all_eq_true]
    intro y hy
    obtain ⟨i, _, rfl⟩ := vi_mem hy
    rfl
  · show ((g : Int) == (g : Int)) = true
    simp
  · obtain ⟨y, hy, rfl⟩ := vi_at hz
    have := hfirst m hm y hy
    show (((y : Nat) : Int) == (g : Int)) = false
    rw [beq_eq_false_iff_ne]
    omega
  refine ⟨_, rfl, (by show 2 ≤ sizeLine; decide), fun p hp => ?_⟩
  have hjl : j < a.pieces.length := (List.getElem?_eq_some_iff.mp hj).1
  have ej := getD_of hj
  obtain ⟨r, hr⟩ := heaviest_is hjl (fun i hi => by
      have e := List.getElem?_eq_getElem hi
      rw [getD_of e, ej]
      exact hmax' _ (List.getElem_mem hi)) fun i hi => by
      have e := List.getElem?_eq_getElem (show i < a.pieces.length by omega)
      rw [getD_of e, ej]
      have h1 := hmax' _ (List.getElem_mem (show i < a.pieces.length by omega))
      have h2 := hfirst i hi _ e
      omega
  have e : Kv351.act (some a) (callAt 17 []) = (some a, ⟨(j : Nat), [g]⟩) := by
    show Kv351.act (some a) .heaviest = _
    simp only [Kv351.act, Kv351.Abs.does, hr, ej]
  rw [e] at k
  exact k.look (zs := [(j : Int), (g : Int)]) TS0 rfl rfl (Same.refl H) hp
/-! ### between -/
theorem scBetween : FnScope ["table", "told", "lowest", "highest", "places", "i", "grams"] ["table", "told"] (defScope sBetween) := ⟨rfl, rfl, rfl, by decide +kernel, rfl, by decide +kernel, by decide +kernel⟩
theorem ok_c18 {f : Addr} {fd : FuncData} (F : Fun K "call_between" "call_between" sBetween f fd) (T : Txt K mg C) (c : Cst mg) : FnOk P w K mg base CX0 4 f fd ["table", "told"] (spC K C 18) := by
  refine F.ok scBetween (fun vs H Q E h => len_spC vs H Q E h) (fun cdv A outer s H vs Q E hr h => ?_)
  obtain ⟨t, told, st, w, xs, rfl, TS, O, nb, hne, hT, hx, h0, k⟩ := h
  obtain ⟨n, m, rfl⟩ := two_args hx h0
  cases st with
  | none => exact absurd (hne rfl) (by decide)
  | some a =>
  refine ⟨_, pss_cons (ps_set (i := 2) scBetween.nd rfl (Or.inr rfl) (pe_ix ix_list (pv 1) pe_int (fun _ _ => rfl)))
    (pss_cons (ps_set (i := 3) scBetween.nd rfl (Or.inr rfl) (pe_ix ix_list (pv 1) pe_int (fun _ _ => rfl)))
    (pss_cons (ps_if (pt_cmpR op_lt (pv 3) (pv 2) (nomark _)) (pss_one (ps_ret (pe_lst (pa_cons (pe_gi (by rfl) c.outOf) pa_nil)))) pss_nil)
    (pss_cons (ps_setLc (i := 4) (own := [("i", 5), ("grams", 6)]) rfl scBetween.nd rfl rfl (sw_true rfl rfl rfl (by decide +kernel)) (pi_enum rfl T.bEnum (pa_cons (pe_fld (pv 0) rfl) pa_nil)) (blkOk_by rfl)
        (fun _ _ _ _ _ => pg_tupK (K := K) (n := 2) rfl rfl (pgs_cons (pg_name (i := 5) scBetween.nd rfl (Or.inl rfl)) (pgs_cons (pg_name (i := 6) scBetween.nd rfl (Or.inl rfl)) pgs_nil)))
        (fun _ _ _ _ _ => pts_one (pw_and (pt_cmpR op_le (pv 2) (pv 6) (nomark _)) (pw_and1 (pt_cmpR op_le (pv 6) (pv 3) (nomark _)))).pt)
        (fun _ _ _ _ _ => pv 5))
    (pss_one (ps_ret (pe_op op_cat (pe_lst (pa_cons (pe_callB call_len_seq (by rfl) T.bLen PySem.boot_len (pa_cons (pv 4) pa_nil)) pa_nil)) (pv 4))))))), ?_⟩
  have Oa := O a rfl
  have TS0 := TS
  obtain ⟨pl, bl, bs, dx, rfl, G⟩ := TS
  refine ⟨_, rfl, told, _, _, _, rfl, rfl, hT, at_of (j := 0) rfl rfl, ?_⟩
  refine ⟨_, rfl, told, _, _, _, rfl, rfl, hT, at_of (j := 1) rfl rfl, ?_⟩
  refine ⟨_, rfl, _, rfl, _, _, rfl, rfl, _, rfl, ite2 (fun hc => ?_) (fun hc => ?_)⟩
  · simp only [decide_eq_true_eq] at hc
    refine ⟨(by show 1 ≤ sizeLine; decide), fun p hp => ?_⟩
    have e : Kv351.act (some a) (callAt 18 [(n : Int), (m : Int)]) = (some a, ⟨-22, []⟩) := by
      show Kv351.act (some a) (.between n m) = _
      simp only [Kv351.act, Kv351.Abs.does, if_pos (show m < n by omega), Kv351.say]
    rw [e] at k
    exact k.look (zs := [-22]) TS0 rfl rfl (Same.refl H) hp
  simp only [decide_eq_true_eq] at hc
  refine ⟨_, rfl, t, C, dx, _, _, rfl, G.ins, T.cl, T.aP, tf_pieces, pl, _, rfl, SqL.of G.pcs, fun D hD => ?_⟩
  refine lc_enum (K := K) (a := pl) (xs := vi a.pieces) (fun i H' => Same H H' ∧ H' D = some (.lst (vi (mids a.pieces n m i)))) ⟨same_new hD, upd_same⟩
    (fun i H' _ q => q.1.seq (SqL.of G.pcs)) (fun i x H' T' hx q hT' => ?_) fun H' q => ?_
  · obtain ⟨g, hg, rfl⟩ := vi_at hx
    obtain ⟨s1, hD1⟩ := q
    have nDT : D ≠ T' := ne_of_none hD1 hT'
    have s2 : Same H (upd H' T' (.tup [.int ((i : Nat) : Int), .int (g : Int)])) := same_put s1 (s1.free hT')
    have hD2 : (upd H' T' (.tup [.int ((i : Nat) : Int), .int (g : Int)])) D = some (.lst (vi (mids a.pieces n m i))) := Eq.trans (upd_ne nDT) hD1
    have hil : i < a.pieces.length := (List.getElem?_eq_some_iff.mp hg).1
    have no : ¬ (n ≤ g ∧ g ≤ m) → Same H (upd H' T' (.tup [.int ((i : Nat) : Int), .int (g : Int)])) ∧ (upd H' T' (.tup [.int ((i : Nat) : Int), .int (g : Int)])) D = some (.lst (vi (mids a.pieces n m (i + 1)))) := fun h => by
      refine ⟨s2, ?_⟩
      rw [mids_succ hg, if_neg h]
      exact hD2
    refine ⟨T', _, rfl, SqT.of upd_same, rfl, _, _, rfl, _, _, rfl, rfl, rfl, ?_⟩
    refine ⟨_, rfl, _, rfl, _, _, rfl, rfl, _, rfl, ite2 (fun h1 => ?_) (fun h1 => ?_)⟩
    · simp only [decide_eq_true_eq] at h1
      refine ⟨_, rfl, _, rfl, _, _, rfl, rfl, _, rfl, ite2 (fun h2 => ?_) (fun h2 => ?_)⟩
      · simp only [decide_eq_true_eq] at h2
        refine ⟨_, rfl, _, hD2, ?_, same_put s2 hD, ?_⟩
        · refine small_line ?_
          rw [vi_length]
          have := mids_length a.pieces n m i
          have := Oa.few
          omega
        · rw [upd_same, mids_succ hg, if_pos (by omega), vi_append]
          rfl
      · simp only [decide_eq_true_eq] at h2
        exact no (by omega)
    · simp only [decide_eq_true_eq] at h1
      exact iteF (no (by omega))
  · obtain ⟨s1, hD1⟩ := q
    rw [vi_length] at hD1
    have hl := mids_length a.pieces n m a.pieces.length
    have hf := Oa.few
    refine ⟨_, rfl, D, _, rfl, .inl (SqL.of hD1), (by show 1 ≤ sizeLine; decide), fun q hq => ?_⟩
    refine ⟨_, rfl, q, D, _, _, rfl, rfl, upd_same, Eq.trans (upd_ne (ne_of_none hD1 hq)) hD1, ?_, fun p hp => ?_⟩
    · rw [vi_length]
      show 1 + (mids a.pieces n m a.pieces.length).length ≤ sizeLine
      exact Nat.le_of_lt (small_line (by omega))
    have e : Kv351.act (some a) (callAt 18 [(n : Int), (m : Int)]) = (some a, Kv351.list (mids a.pieces n m a.pieces.length)) := by
      show Kv351.act (some a) (.between n m) = _
      simp only [Kv351.act, Kv351.Abs.does, if_neg (show ¬ m < n by omega)]
      rfl
    rw [e] at k
    rw [vi_length] at hp ⊢
    exact k.cat (zs := [((mids a.pieces n m a.pieces.length).length : Int)]) (l := mids a.pieces n m a.pieces.length) TS0 rfl rfl s1 hq hp
/-! ### middle -/
theorem scMiddle : FnScope ["table", "told", "count"] ["table", "told"] (defScope sMiddle) := ⟨rfl, rfl, rfl, by decide +kernel, rfl, by decide +kernel, by decide +kernel⟩
theorem ok_c19 {f fa : Addr} {fd fda : FuncData} (F : Fun K "call_middle" "call_middle" sMiddle f fd) (T : Txt K mg C) (c : Cst mg) (MA : Met K C "weigh_all" "Table.weigh_all" sWA ["self"] fa fda) : FnOk P w K mg base CX0 4 f fd ["table", "told"] (spC K C 19) := by
  have GA : FnOk P w K mg base CX0 1 fa fda ["self"] (spWA C) := ok_wa MA.fn T
  refine F.ok scMiddle (fun vs H Q E h => len_spC vs H Q E h) (fun cdv A outer s H vs Q E hr h => ?_)
  obtain ⟨t, told, st, w, xs, rfl, TS, O, nb, hne, hT, hx, h0, k⟩ := h
  obtain rfl := no_arg hx
  cases st with
  | none => exact absurd (hne rfl) (by decide)
  | some a =>
  have hr1 : Room 1 _ := hr.mono (by decide)
  refine ⟨_, pss_cons (ps_set (i := 2) scMiddle.nd rfl (Or.inl rfl) (pe_callB call_len_seq (by rfl) T.bLen PySem.boot_len (pa_cons (pe_fld (pv 0) rfl) pa_nil)))
    (pss_cons (ps_if (pt_cmpR op_eq (pv 2) pe_int (nomark _)) (pss_one (ps_ret (pe_lst (pa_cons (pe_gi (by rfl) c.noneThere) pa_nil)))) pss_nil)
    (pss_one (ps_ret (pe_lst (pa_cons (pe_ix ix_list (pe_callB cr_sorted (by rfl) T.bSorted PyProof.Rows.boot_sorted (pa_cons (pe_fld (pv 0) rfl) pa_nil)) (pe_op op_fdiv (pe_op op_sub (pv 2) pe_int) pe_int) (fun _ _ => rfl))
      (pa_cons (pe_op op_fdiv (pe_meth0 (pv 0) T.cl MA.mt GA hr1 MA.bd .nil pass0) (pv 2)) pa_nil)))))), ?_⟩
  have Oa := O a rfl
  have hf := Oa.few
  have TS0 := TS
  obtain ⟨pl, bl, bs, dx, rfl, G⟩ := TS
  refine ⟨_, rfl, t, C, dx, _, _, rfl, G.ins, T.cl, T.aP, tf_pieces, pl, _, rfl, .inl (SqL.of G.pcs), ?_⟩
  rw [vi_length]
  refine ⟨_, rfl, rfl, _, rfl, ite2 (fun hc => ?_) (fun hc => ?_)⟩
  · simp only [decide_eq_true_eq, V.int.injEq] at hc
    refine ⟨(by show 1 ≤ sizeLine; decide), fun p hp => ?_⟩
    have hnil : a.pieces = [] := List.length_eq_zero_iff.mp (by omega)
    have e : Kv351.act (some a) (callAt 19 []) = (some a, ⟨-6, []⟩) := by
      show Kv351.act (some a) .middle = _
      simp only [Kv351.act, Kv351.Abs.does, if_pos hnil, Kv351.say]
    rw [e] at k
    exact k.look (zs := [-6]) TS0 rfl rfl (Same.refl H) hp
  simp only [decide_eq_true_eq, V.int.injEq] at hc
  refine ⟨_, rfl, t, C, dx, _, _, rfl, G.ins, T.cl, T.aP, tf_pieces, pl, a.pieces.map Int.ofNat, rfl, SqL.of G.pcs, by rw [List.length_map]; omega, fun ns q hperm hsort hq => ?_⟩
  have en : ns.map V.int = vi (asc a.pieces) := by
    rw [asc_ints hperm hsort]
    rfl
  rw [en]
  have s1 : Same H (upd H q (.lst (vi (asc a.pieces)))) := same_new hq
  have G1 := G.same s1
  have hlt : (a.pieces.length - 1) / 2 < a.pieces.length := by omega
  have hat : (asc a.pieces)[(a.pieces.length - 1) / 2]? = some ((asc a.pieces).getD ((a.pieces.length - 1) / 2) 0) := by
    have h : (a.pieces.length - 1) / 2 < (asc a.pieces).length := by rw [asc_length]; exact hlt
    rw [List.getElem?_eq_getElem h]
    simp [List.getD, List.getElem?_eq_getElem h]
  have ei : (((a.pieces.length : Nat) : Int) - 1) / 2 = (((a.pieces.length - 1) / 2 : Nat) : Int) := by omega
  refine ⟨_, rfl, _, _, rfl, rfl, _, _, rfl, rfl, ⟨by decide, by decide⟩, q, _, _, _, rfl, rfl, SqL.of upd_same, at_of (j := (a.pieces.length - 1) / 2) ei (vi_get hat), ?_⟩
  refine ⟨_, rfl, t, dx, _, rfl, G1.ins, tfm, t, pl, bl, dx, bs, true, a.want, a.pieces, a.baskets, rfl, G1, _, rfl, _, _, rfl, rfl, ⟨?_, ?_⟩, (by show 2 ≤ sizeLine; decide), fun p hp => ?_⟩
  · show (0 : Int) < ((a.pieces.length : Nat) : Int)
    omega
  · show ((a.pieces.length : Nat) : Int) < 1073741824
    omega
  have hne : ¬ a.pieces = [] := fun e => hc (by rw [e]; rfl)
  have e : Kv351.act (some a) (callAt 19 []) = (some a, ⟨((asc a.pieces).getD ((a.pieces.length - 1) / 2) 0 : Nat), [a.pieces.sum / a.pieces.length]⟩) := by
    show Kv351.act (some a) .middle = _
    simp only [Kv351.act, Kv351.Abs.does, if_neg hne, Kv351.Abs.n]
    rw [middle_is a.pieces _ hlt]
  rw [e] at k
  exact k.look (zs := [(((asc a.pieces).getD ((a.pieces.length - 1) / 2) 0 : Nat) : Int), ((a.pieces.sum / a.pieces.length : Nat) : Int)]) TS0 rfl rfl s1 hp
end
end BW
set_option Elab.async false
set_option linter.all false
set_option maxRecDepth 100000
set_option maxHeartbeats 4000000
namespace BW
open PySem PySem.Spec PyProof.Rows L2
abbrev sBasket : Stmt := top 44
abbrev sSums : Stmt := top 45
abbrev sState : Stmt := top 46
/-- by how much a basket is beyond what's wanted -/
def overV (w : Nat) : V → V
  | .int z => .int (if z - (w : Int) > 0 then z - (w : Int) else 0)
  | v => v
theorem map_over (ws : List Nat) (w : Nat) : ((vi ws).filter fun _ => true).map (overV w) = vi (ws.map (· - w)) := by
  rw [List.filter_eq_self.mpr (fun _ _ => rfl)]
  unfold vi
  rw [List.map_map, List.map_map, List.map_map, List.map_map]
  apply List.map_congr_left
  intro x _
  show V.int (if ((x : Nat) : Int) - (w : Int) > 0 then ((x : Nat) : Int) - (w : Int) else 0) = V.int ((x - w : Nat) : Int)
  congr 1
  split <;> omega
section
variable {P : Program} {w : World} {K : PySem.W.Frag} {mg : Str → Option Value} {base : Heap} {C : Addr}
/-! ### basket -/
theorem scBasket : FnScope ["table", "told", "place", "grams"] ["table", "told"] (defScope sBasket) := ⟨rfl, rfl, rfl, by decide +kernel, rfl, by decide +kernel, by decide +kernel⟩
theorem ok_c20 {f : Addr} {fd : FuncData} (F : Fun K "call_basket" "call_basket" sBasket f fd) (T : Txt K mg C) (c : Cst mg) : FnOk P w K mg base CX0 4 f fd ["table", "told"] (spC K C 20) := by
  refine F.ok scBasket (fun vs H Q E h => len_spC vs H Q E h) (fun cdv A outer s H vs Q E hr h => ?_)
  obtain ⟨t, told, st, w, xs, rfl, TS, O, nb, hne, hT, hx, h0, k⟩ := h
  obtain ⟨n, rfl⟩ := one_arg (q := 20) hx h0
  cases st with
  | none => exact absurd (hne rfl) (by decide)
  | some a =>
  refine ⟨_, pss_cons (ps_set (i := 2) scBasket.nd rfl (Or.inl rfl) (pe_ix ix_list (pv 1) pe_int (fun _ _ => rfl)))
    (pss_cons (ps_if (pt_cmpR op_ge (pv 2) (pe_callB call_len_seq (by rfl) T.bLen PySem.boot_len (pa_cons (pe_fld (pv 0) rfl) pa_nil)) (nomark _)) (pss_one (ps_ret (pe_lst (pa_cons (pe_gi (by rfl) c.noSuch) pa_nil)))) pss_nil)
    (pss_cons (ps_set (i := 3) scBasket.nd rfl (Or.inl rfl) (pe_ix ix_list (pe_fld (pv 0) rfl) (pv 2) (fun _ _ => rfl)))
    (pss_one (ps_ret (pe_op op_cat (pe_lst (pa_cons (pe_callB call_len_seq (by rfl) T.bLen PySem.boot_len (pa_cons (pv 3) pa_nil)) (pa_cons (pe_callB (cr_sum rfl) (by rfl) T.bSum PyProof.Rows.boot_sum (pa_cons (pv 3) pa_nil)) pa_nil))) (pv 3)))))), ?_⟩
  have Oa := O a rfl
  have TS0 := TS
  obtain ⟨pl, bl, bs, dx, rfl, G⟩ := TS
  refine ⟨_, rfl, told, _, _, _, rfl, rfl, hT, at_of (j := 0) rfl rfl, ?_⟩
  refine ⟨_, rfl, _, rfl, t, C, dx, _, _, rfl, G.ins, T.cl, T.aK, tf_baskets, bl, _, rfl, .inl (SqL.of G.bks), _, _, rfl, rfl, _, rfl, ite2 (fun hc => ?_) (fun hc => ?_)⟩
  · simp only [decide_eq_true_eq, List.length_map, G.len] at hc
    refine ⟨(by show 1 ≤ sizeLine; decide), fun p hp => ?_⟩
    have hn : a.baskets[n]? = none := List.getElem?_eq_none (by omega)
    have e : Kv351.act (some a) (callAt 20 [(n : Int)]) = (some a, ⟨-2, []⟩) := by
      show Kv351.act (some a) (.basket n) = _
      simp only [Kv351.act, Kv351.Abs.does, hn, Kv351.say]
    rw [e] at k
    exact k.look (zs := [-2]) TS0 rfl rfl (Same.refl H) hp
  simp only [decide_eq_true_eq, List.length_map, G.len] at hc
  have hnk : n < a.baskets.length := by omega
  have hnb : n < bs.length := by rw [G.len]; exact hnk
  have ek : a.baskets[n]? = some a.baskets[n] := List.getElem?_eq_getElem hnk
  have eb : bs[n]? = some bs[n] := List.getElem?_eq_getElem hnb
  have hbo := G.each n _ _ eb ek
  have h9 := Oa.bfew _ (List.getElem_mem hnk)
  generalize a.baskets[n] = kl at ek hbo h9
  generalize bs[n] = b at eb hbo
  have hm : (bs.map V.ref)[n]? = some (V.ref b) := by rw [List.getElem?_map, eb]; rfl
  refine ⟨_, rfl, t, C, dx, _, _, rfl, G.ins, T.cl, T.aK, tf_baskets, _, rfl, bl, _, _, _, rfl, rfl, SqL.of G.bks, at_of (j := n) rfl hm, ?_⟩
  refine ⟨_, rfl, b, _, rfl, .inl (SqL.of hbo), _, rfl, b, kl.map Int.ofNat, rfl, SqL.of hbo, (by show 2 ≤ sizeLine; decide), fun q hq => ?_⟩
  refine ⟨_, rfl, q, b, _, _, rfl, rfl, upd_same, Eq.trans (upd_ne (ne_of_none hbo hq)) hbo, ?_, fun p hp => ?_⟩
  · rw [vi_length]
    show 2 + kl.length ≤ sizeLine
    exact Nat.le_of_lt (small_line (by omega))
  have e : Kv351.act (some a) (callAt 20 [(n : Int)]) = (some a, ⟨(kl.length : Nat), kl.sum :: kl⟩) := by
    show Kv351.act (some a) (.basket n) = _
    simp only [Kv351.act, Kv351.Abs.does, ek]
  rw [e] at k
  rw [vi_length, sum_ints] at hp ⊢
  exact k.cat (zs := [(kl.length : Int), ((kl.sum : Nat) : Int)]) (l := kl) TS0 rfl rfl (Same.refl H) hq hp
/-! ### sums -/
theorem scSums : FnScope ["table", "told", "weights", "beyond", "basket", "weight"] ["table", "told"] (defScope sSums) := ⟨rfl, rfl, rfl, by decide +kernel, rfl, by decide +kernel, by decide +kernel⟩
theorem ok_c21 {f fa fc : Addr} {fd fda fdc : FuncData} (F : Fun K "call_sums" "call_sums" sSums f fd) (T : Txt K mg C) (MC : Met K C "count_came" "Table.count_came" sCC ["self"] fc fdc) (MA : Met K C "weigh_all" "Table.weigh_all" sWA ["self"] fa fda) :
    FnOk P w K mg base CX0 4 f fd ["table", "told"] (spC K C 21) := by
  have GC : FnOk P w K mg base CX0 1 fc fdc ["self"] (spCC C) := ok_cc MC.fn T
  have GA : FnOk P w K mg base CX0 1 fa fda ["self"] (spWA C) := ok_wa MA.fn T
  refine F.ok scSums (fun vs H Q E h => len_spC vs H Q E h) (fun cdv A outer s H vs Q E hr h => ?_)
  obtain ⟨t, told, st, w, xs, rfl, TS, O, nb, hne, hT, hx, h0, k⟩ := h
  obtain rfl := no_arg hx
  cases st with
  | none => exact absurd (hne rfl) (by decide)
  | some a =>
  have hr1 : Room 1 _ := hr.mono (by decide)
  refine ⟨_, pss_cons (ps_setLc (i := 2) (own := [("basket", 4)]) rfl scSums.nd rfl rfl (sw_true rfl rfl rfl (by decide +kernel)) (pi_list (pe_fld (pv 0) rfl)) (blkOk_by rfl)
        (fun _ _ _ _ _ => pg_name (i := 4) scSums.nd rfl (Or.inl rfl)) (fun _ _ _ _ _ => pts_nil)
        (fun _ _ _ _ _ => pe_callB (cr_sumK (K := K) rfl rfl) (by rfl) T.bSum PyProof.Rows.boot_sum (pa_cons (pv 4) pa_nil)))
    (pss_cons (ps_set (i := 3) scSums.nd rfl (Or.inl rfl) (pe_callB (cr_sum rfl) (by rfl) T.bSum PyProof.Rows.boot_sum (pa_cons
        (pe_lc (own := [("weight", 5)]) rfl scSums.nd (pi_list (pv 2)) (blkOk_by rfl) (fun _ _ _ _ _ => pg_name (i := 5) scSums.nd rfl (Or.inl rfl)) (fun _ _ _ _ _ => pts_nil)
          (fun _ _ _ _ _ => pe_callB (call_max2 rfl) (by rfl) T.bMax PyProof.Rows.boot_max (pa_cons pe_int (pa_cons (pe_op op_sub (pv 5) (pe_fldK (K := K) rfl (pv 0) rfl)) pa_nil)))) pa_nil)))
    (pss_one (ps_ret (pe_lst (pa_cons pe_int (pa_cons (pe_meth0 (pv 0) T.cl MC.mt GC hr1 MC.bd .nil pass0) (pa_cons (pe_callB call_len_seq (by rfl) T.bLen PySem.boot_len (pa_cons (pe_fld (pv 0) rfl) pa_nil))
      (pa_cons (pe_meth0 (pv 0) T.cl MA.mt GA hr1 MA.bd .nil pass0) (pa_cons (pe_callB call_len_seq (by rfl) T.bLen PySem.boot_len (pa_cons (pv 2) pa_nil)) (pa_cons (pe_callB (cr_sum rfl) (by rfl) T.bSum PyProof.Rows.boot_sum (pa_cons (pv 2) pa_nil)) (pa_cons (pv 3) pa_nil))))))))))), ?_⟩
  have Oa := O a rfl
  have hk : a.baskets.length ≤ 256 := nb
  have TS0 := TS
  obtain ⟨pl, bl, bs, dx, rfl, G⟩ := TS
  refine ⟨_, rfl, t, C, dx, _, _, rfl, G.ins, T.cl, T.aK, tf_baskets, bl, rfl, ⟨_, SqL.of G.bks⟩, fun D hD => ?_⟩
  refine lc_list (K := K) (a := bl) (xs := bs.map V.ref) (fun i H' => Same H H' ∧ H' D = some (.lst (vi ((a.baskets.take i).map List.sum)))) ⟨same_new hD, upd_same⟩
    (fun i H' _ q => q.1.seq (SqL.of G.bks)) (fun i x H' hx q => ?_) fun H1 q => ?_
  · rw [List.getElem?_map] at hx
    cases e : bs[i]? with
    | none => rw [e] at hx; cases hx
    | some b =>
      rw [e] at hx
      cases hx
      have hi : i < a.baskets.length := by rw [← G.len]; exact (List.getElem?_eq_some_iff.mp e).1
      have ek : a.baskets[i]? = some a.baskets[i] := List.getElem?_eq_getElem hi
      have hb := G.each i b a.baskets[i] e ek
      refine ⟨rfl, iteT (B := Same H H' ∧ H' D = some (.lst (vi ((a.baskets.take (i + 1)).map List.sum)))) ⟨_, rfl, b, a.baskets[i].map Int.ofNat, rfl, SqL.of (q.1 _ _ hb), _, q.2, ?_, same_put q.1 hD, ?_⟩⟩
      · refine small_line ?_
        rw [vi_length, List.length_map, List.length_take]
        omega
      · rw [upd_same, take_snoc ek, List.map_append, vi_append, sum_ints]
        rfl
  obtain ⟨s1, hD1⟩ := q
  rw [List.length_map, G.len, List.take_length] at hD1
  have G1 := G.same s1
  have hwl : (a.baskets.map List.sum).length = a.baskets.length := List.length_map _
  generalize hws : a.baskets.map List.sum = ws at hD1 hwl
  refine ⟨_, rfl, D, rfl, ⟨_, SqL.of hD1⟩, fun D2 hD2 => ?_⟩
  refine lc_fm (K := K) (xs := vi ws) (fun _ => true) (overV a.want) (SqL.of hD1) hD2 (small_line (by rw [vi_length]; omega)) (fun x H2 kk kk' hx2 s2 g1 g2 => ?_) fun H2 s2 h2 => ?_
  · obtain ⟨z, _, rfl⟩ := vi_mem hx2
    exact ⟨rfl, iteT (B := kk' H2) ⟨_, rfl, _, rfl, t, C, dx, _, _, rfl, (G1.same s2).ins, T.cl, T.aW, tf_wanted, _, _, rfl, rfl, _, _, rfl, g1 rfl⟩⟩
  rw [map_over] at h2
  refine ⟨D2, (ws.map (· - a.want)).map Int.ofNat, rfl, SqL.of h2, ?_⟩
  rw [sum_ints]
  have G2 := G1.same s2
  refine ⟨_, rfl, t, dx, _, rfl, G2.ins, tfc, t, pl, bl, dx, bs, true, a.want, a.pieces, a.baskets, rfl, G2, by omega, fun H3 s3 => ?_⟩
  have G3 := G2.same s3
  have hD3 : H3 D = some (.lst (vi ws)) := s3 _ _ (s2 _ _ hD1)
  refine ⟨_, rfl, t, C, dx, _, _, rfl, G3.ins, T.cl, T.aP, tf_pieces, pl, _, rfl, .inl (SqL.of G3.pcs), _, rfl, t, dx, _, rfl, G3.ins, tfm, t, pl, bl, dx, bs, true, a.want, a.pieces, a.baskets, rfl, G3,
    _, rfl, D, _, rfl, .inl (SqL.of hD3), _, rfl, D, ws.map Int.ofNat, rfl, SqL.of hD3, _, rfl, (by show 7 ≤ sizeLine; decide), fun p hp => ?_⟩
  have e : Kv351.act (some a) (callAt 21 []) = (some a, ⟨0, [a.came, a.pieces.length, a.pieces.sum, a.baskets.length, ws.sum, (ws.map (· - a.want)).sum]⟩) := by
    show Kv351.act (some a) .sums = _
    rw [← hws, List.map_map]
    rfl
  rw [e] at k
  rw [vi_length, vi_length, sum_ints, ← Oa.came, hwl]
  exact k.look (zs := [0, ((a.came : Nat) : Int), ((a.pieces.length : Nat) : Int), ((a.pieces.sum : Nat) : Int), ((a.baskets.length : Nat) : Int), ((ws.sum : Nat) : Int), (((ws.map (· - a.want)).sum : Nat) : Int)]) TS0 rfl rfl ((s1.trans s2).trans s3) hp
/-! ### state -/
theorem scState : FnScope ["table", "told"] ["table", "told"] (defScope sState) := ⟨rfl, rfl, rfl, by decide +kernel, rfl, by decide +kernel, by decide +kernel⟩
theorem ok_c22 {f : Addr} {fd : FuncData} (F : Fun K "call_state" "call_state" sState f fd) (T : Txt K mg C) : FnOk P w K mg base CX0 4 f fd ["table", "told"] (spC K C 22) := by
  refine F.ok scState (fun vs H Q E h => len_spC vs H Q E h) (fun cdv A outer s H vs Q E hr h => ?_)
  obtain ⟨t, told, st, w, xs, rfl, TS, O, nb, hne, hT, hx, h0, k⟩ := h
  obtain rfl := no_arg hx
  cases st with
  | none => exact absurd (hne rfl) (by decide)
  | some a =>
  refine ⟨_, pss_one (ps_ret (pe_op op_cat (pe_lst (pa_cons (pe_callB call_len_seq (by rfl) T.bLen PySem.boot_len (pa_cons (pe_fld (pv 0) rfl) pa_nil)) (pa_cons (pe_fld (pv 0) rfl) pa_nil))) (pe_fld (pv 0) rfl))), ?_⟩
  have Oa := O a rfl
  have hf := Oa.few
  have TS0 := TS
  obtain ⟨pl, bl, bs, dx, rfl, G⟩ := TS
  refine ⟨_, rfl, t, C, dx, _, _, rfl, G.ins, T.cl, T.aP, tf_pieces, pl, _, rfl, .inl (SqL.of G.pcs), _, rfl, t, C, dx, _, _, rfl, G.ins, T.cl, T.aW, tf_wanted, (by show 2 ≤ sizeLine; decide), fun q hq => ?_⟩
  have G1 := G.same (same_new (o := HO.lst [V.int (((vi a.pieces).length : Nat) : Int), V.int (a.want : Int)]) hq)
  refine ⟨_, rfl, t, C, dx, _, _, rfl, G1.ins, T.cl, T.aP, tf_pieces, q, pl, _, _, rfl, rfl, upd_same, G1.pcs, ?_, fun p hp => ?_⟩
  · rw [vi_length]
    show 2 + a.pieces.length ≤ sizeLine
    exact Nat.le_of_lt (small_line (by omega))
  have e : Kv351.act (some a) (callAt 22 []) = (some a, ⟨(a.pieces.length : Nat), a.want :: a.pieces⟩) := rfl
  rw [e] at k
  rw [vi_length] at hp ⊢
  exact k.cat (zs := [((a.pieces.length : Nat) : Int), (a.want : Int)]) (l := a.pieces) TS0 rfl rfl (Same.refl H) hq hp
end
end BW
set_option Elab.async false
set_option linter.all false
set_option maxRecDepth 100000
set_option maxHeartbeats 4000000
namespace BW
open PySem PySem.Spec PyProof.Rows L2
abbrev sAC : Stmt := top 49
abbrev sAns : Stmt := top 50
/-- a tuple of the module -/
def TupK (K : PySem.W.Frag) (a : Addr) (xs : List V) : Prop := ∃ (o : Obj) (its : Array Value) (n : Nat), K.lookup a = some o ∧ o.cls = .type "tuple" ∧ o.data = .seq its n ∧ its.size ≤ sizeLine ∧ Vals xs its.toList
theorem TupK.sq {K : PySem.W.Frag} {a : Addr} {xs : List V} (h : TupK K a xs) (H : Hp) : SqT K H a xs := .inr h
section
variable {P : Program} {w : World} {K : PySem.W.Frag} {mg : Str → Option Value} {base : Heap} {C : Addr}
/-- the calls' defs, in their order -/
def CallsOk (P : Program) (w : World) (K : PySem.W.Frag) (mg : Str → Option Value) (base : Heap) (C : Addr) (items : List V) : Prop :=
  ∀ q : Nat, q < 23 → ∃ (f : Addr) (fd : FuncData), items[q]? = some (.ref f) ∧ FnOk P w K mg base CX0 5 f fd ["table", "told"] (spC K C q) ∧ PySem.W.keepIn K (.ref f) = true ∧ Binds K fd ["table", "told"] []
/-! ### answer_call -/
def spAC (K : PySem.W.Frag) (C : Addr) : Sp := fun vs H Q _ => ∃ (t told : Addr) (q : Nat) (st : Kv351.State) (w : List Addr) (xs : List Int), vs = [.ref t, .int (q : Int), .ref told] ∧ q < 23 ∧ TabS C H t w st ∧ OkS st ∧ nB st ≤ 256 ∧
  SqL K H told (xs.map V.int) ∧ counts[q]? = some xs.length ∧ (∀ x ∈ xs, 0 ≤ x) ∧ Post C H t w (Kv351.act st (callAt q xs)).1 (Kv351Neutral.row (Kv351.act st (callAt q xs)).2) Q
theorem act_none {q : Nat} (hq : q < 23) (h : q ≠ 0) (xs : List Int) : Kv351.act none (callAt q xs) = (none, ⟨-11, []⟩) := by
  rcases upto hq with e | e | e | e | e | e | e | e | e | e | e | e | e | e | e | e | e | e | e | e | e | e | e <;> subst e <;> first | exact absurd rfl h | rfl
theorem scAC : FnScope ["table", "number", "told"] ["table", "number", "told"] (defScope sAC) := ⟨rfl, rfl, rfl, by decide +kernel, rfl, by decide +kernel, by decide +kernel⟩
theorem ok_ac {f aC : Addr} {fd : FuncData} {items : List V} (F : Fun K "answer_call" "answer_call" sAC f fd) (T : Txt K mg C) (c : Cst mg) (gC : mg "CALLS" = some (.ref aC)) (tC : TupK K aC items) (G : CallsOk P w K mg base C items) :
    FnOk P w K mg base CX0 6 f fd ["table", "number", "told"] (spAC K C) := by
  refine F.ok scAC (fun vs H Q E h => ?_) (fun cdv A outer s H vs Q E hr h => ?_)
  · obtain ⟨t, told, q, st, w, xs, rfl, _⟩ := h
    rfl
  obtain ⟨t, told, q, st, ws, xs, rfl, hq, TS, O, nb, hT, hx, h0, k⟩ := h
  refine ⟨_, pss_cons (ps_if (pw_and (pt_cmpR op_ne (pv 1) (pe_gi (by rfl) c.begin0) (nomark _)) (pw_and1 (pt_not (pt_val (pe_fld (pv 0) rfl))))).pt (pss_one (ps_ret (pe_lst (pa_cons (pe_gi (by rfl) c.notBegun) pa_nil)))) pss_nil)
    (pss_one (ps_ret (pe_callV (pe_ix ix_tup (pe_glob (v := .ref aC) (by rfl) gC rfl) (pv 1) (fun _ _ => rfl)) (pa_cons (pv 0) (pa_cons (pv 2) pa_nil))))), ?_⟩
  obtain ⟨fq, fdq, hi, Gq, kq, bq⟩ := G q hq
  have go : (st = none → q = 0) → tRet (tCallV (Cx.nox (cxOf CX0 P w K mg base ["table", "number", "told"] "answer_call" (defScope sAC) f cdv A outer s H E)) (tOp (rIxT K) (L2.tC (.ref aC)) (tVar 1)) (tCons (tVar 0) (tCons (tVar 2) tNil)))
      { nx := fun _ H' => Q .non H', rt := Q } (L2.start ["table", "number", "told"] [.ref t, .int (q : Int), .ref told]) H := fun hst =>
    ⟨_, rfl, aC, _, _, _, rfl, rfl, tC.sq H, at_of (j := q) rfl hi, fq, 5, fdq, _, _, rfl, Gq, hr, kq, bq, _, rfl, _, rfl, t, told, st, ws, xs, rfl, TS, O, nb, hst, hT, hx, h0, k⟩
  obtain ⟨pl, bl, bs, dx, hw, GT⟩ := id TS
  obtain ⟨bg, want, ps, ks, GT, hbg⟩ : ∃ bg want ps ks, TabG C H t pl bl bs dx bg want ps ks ∧ (bg = true ↔ st ≠ none) := by
    cases st with
    | none => exact ⟨_, _, _, _, GT, by simp⟩
    | some a => exact ⟨_, _, _, _, GT, by simp⟩
  refine ⟨_, rfl, rfl, _, rfl, ite2 (fun hc => ?_) (fun hc => ?_)⟩
  · refine ⟨_, rfl, t, C, dx, _, _, rfl, GT.ins, T.cl, T.aB, tf_begun, _, rfl, ite2 (fun hb => ?_) (fun hb => ?_)⟩
    · have hq0 : q ≠ 0 := fun e => by
        subst e
        simp at hc
      have hst : st = none := by
        cases bg with
        | true => simp at hb
        | false =>
          cases st with
          | none => rfl
          | some a => exact absurd (hbg.mpr (by simp)) (by simp)
      subst hst
      refine ⟨(by show 1 ≤ sizeLine; decide), fun p hp => ?_⟩
      rw [act_none hq hq0 xs] at k
      exact k.look (zs := [-11]) TS rfl rfl (Same.refl H) hp
    · refine go fun e => ?_
      cases bg with
      | true => exact absurd e (hbg.mp rfl)
      | false => exact absurd rfl hb
  · refine go fun _ => ?_
    simp only [Bool.not_eq_true', decide_eq_false_iff_not, Classical.not_not, V.int.injEq] at hc
    simp at hc
    omega
/-! ### answers -/
def spAns (K : PySem.W.Frag) : Sp := fun vs H Q _ => ∃ (a : Addr) (ns : List Int), vs = [.ref a] ∧ SqL K H a (ns.map V.int) ∧ ns.length ≤ 800 ∧ (∀ x ∈ ns, 0 ≤ x) ∧ PyKv351.answers_asked ns = true ∧
  ∀ (H' : Hp) (p : Addr), H' p = some (.lst ((PyKv351.answers ns).map V.int)) → Q (.ref p) H'
theorem cut_ints {ns : List Int} {i j : Nat} (h : i ≤ j) (hj : j ≤ ns.length) : cutV (ns.map V.int) (some (i : Int)) (some (j : Int)) = ((ns.drop i).take (j - i)).map V.int := by
  unfold cutV
  rw [HT.sIx_nat, HT.sIx_nat, List.length_map, Nat.min_eq_left hj, Nat.min_eq_left (Nat.le_trans h hj), List.map_take, List.map_drop]
def countsV : List V := counts.map fun (n : Nat) => V.int (n : Int)
theorem scAns : FnScope ["calls", "table", "answered", "place", "number", "behind", "answer"] ["calls"] (defScope sAns) := ⟨rfl, rfl, rfl, by decide +kernel, rfl, by decide +kernel, by decide +kernel⟩
theorem ok_ans {f fi fc aT : Addr} {fd fdi fdc : FuncData} (F : Fun K "answers" "answers" sAns f fd) (T : Txt K mg C) (M : Mk K C fi) (FI : Fun K "__init__" "Table.__init__" sInit fi fdi) (bI : Binds K fdi ["self"] [])
    (DC : Def K mg "answer_call" sAC ["table", "number", "told"] fc fdc) (GC : FnOk P w K mg base CX0 6 fc fdc ["table", "number", "told"] (spAC K C)) (gT : mg "TOLD_COUNTS" = some (.ref aT)) (tT : TupK K aT countsV) :
    FnOk P w K mg base CX0 7 f fd ["calls"] (spAns K) := by
  have GI : FnOk P w K mg base CX0 1 fi fdi ["self"] (spInit C) := ok_init FI T
  refine F.ok scAns (fun vs H Q E h => ?_) (fun cdv A outer s H vs Q E hr h => ?_)
  · obtain ⟨a, ns, rfl, _⟩ := h
    rfl
  obtain ⟨a, ns, rfl, hS, hlen, hpos, hask, k⟩ := h
  have hr1 : Room 2 _ := hr.mono (by decide)
  obtain ⟨raw0, hraw0, h256, hans, hshort⟩ := asked_of hask
  refine ⟨_, pss_cons (ps_set (i := 1) scAns.nd rfl (Or.inl rfl) (pe_make0 M GI hr1 rfl T.gC bI .nil pass0))
    (pss_cons (ps_set (i := 2) scAns.nd rfl (Or.inl rfl) (pe_lst pa_nil))
    (pss_cons (ps_set (i := 3) scAns.nd rfl (Or.inl rfl) pe_int)
    (pss_cons (ps_while PassesOwn.never (pt_cmpR op_lt (pv 3) (pe_callB call_len_seq (by rfl) T.bLen PySem.boot_len (pa_cons (pv 0) pa_nil)) (nomark _))
      (pss_cons (ps_set (i := 4) scAns.nd rfl (Or.inl rfl) (pe_ix ix_list (pv 0) (pv 3) (fun _ _ => rfl)))
      (pss_cons (ps_set (i := 5) scAns.nd rfl (Or.inl rfl) (pe_op op_add (pe_op op_add (pv 3) pe_int) (pe_ix ix_tup (pe_glob (v := .ref aT) (by rfl) gT rfl) (pv 4) (fun _ _ => rfl))))
      (pss_cons (ps_set (i := 6) scAns.nd rfl (Or.inl rfl) (pe_call GC hr rfl DC.gl DC.fn.kp DC.bd .nil pass0 (pa_cons (pv 1) (pa_cons (pv 4) (pa_cons (pe_slice sl_list (pv 0) (po_some (pe_op op_add (pv 3) pe_int)) (po_some (pv 5))) pa_nil)))))
      (pss_cons (ps_expr (pe_bm PySem.F.plainAttrs_list PySem.F.slot_list_append PySem.F.type_list_append mt_append (pv 2) (pa_cons (pe_callB call_len_seq (by rfl) T.bLen PySem.boot_len (pa_cons (pv 6) pa_nil)) pa_nil)))
      (pss_cons (ps_expr (pe_bm PySem.F.plainAttrs_list PySem.F.slot_list_extend PySem.F.type_list_extend mt_extend (pv 2) (pa_cons (pv 6) pa_nil)))
      (pss_one (ps_set (i := 3) scAns.nd rfl (Or.inl rfl) (pv 5)))))))))
    (pss_one (ps_ret (pv 2)))))), ?_⟩
  -- table = Table(); answered = []; place = 0
  intro t dx nt nd ne
  refine ⟨t, dx, rfl, upd_same, fun H1 pl bl G1 kp1 n1 n2 => ⟨rfl, Nat.zero_le _, fun q hq => ?_⟩⟩
  have s1 : Same H H1 := Same.made nt nd kp1
  have npl : H pl = none := by
    have : pl ≠ t := fun e => by rw [e, upd_same] at n1; cases n1
    rw [upd_ne this] at n1
    cases e : H pl with
    | none => rfl
    | some o => rw [upd_ne (ne_of_none e nd), e] at n1; cases n1
  have nbl : H bl = none := by
    have : bl ≠ t := fun e => by rw [e, upd_same] at n2; cases n2
    rw [upd_ne this] at n2
    cases e : H bl with
    | none => rfl
    | some o => rw [upd_ne (ne_of_none e nd), e] at n2; cases n2
  have hq0 : H q = none := s1.free hq
  have TS1 : TabS C (upd H1 q (.lst [])) t [t, pl, bl] none := ⟨pl, bl, [], dx, rfl, G1.same (same_new hq)⟩
  have hqw : q ∉ [t, pl, bl] := fun hm => by
    simp only [List.mem_cons, List.not_mem_nil, or_false] at hm
    rcases hm with e | e | e
    · rw [e, G1.ins] at hq; cases hq
    · rw [e, G1.pcs] at hq; cases hq
    · rw [e, G1.bks] at hq; cases hq
  refine while_by (fun σ H' => ∃ (i : Nat) (st : Kv351.State) (w : List Addr) (fu : Nat) (raw : List (List (List Int))) (acc : List Int) (v4 v5 v6 : Option V), σ = [some (.ref a), some (.ref t), some (.ref q), some (.int (i : Int)), v4, v5, v6] ∧
      Same H H' ∧ TabS C H' t w st ∧ OkS st ∧ nB st + raw.length ≤ 256 ∧ H' q = some (.lst (acc.map V.int)) ∧ q ∉ w ∧ (∀ b ∈ w, H b = none) ∧ i ≤ ns.length ∧ PyFlat.calls PyKv351.shape fu (ns.drop i) = some raw ∧ PyKv351.answers ns = acc ++ tell st raw)
    (fun (σ : L2.St) (_ : Hp) => match σ[3]? with
      | some (some (V.int z)) => ns.length - z.toNat
      | _ => 0) ⟨0, none, [t, pl, bl], ns.length, raw0, [], none, none, none, rfl, same_put s1 hq0, TS1, (fun a e => nomatch e), (by show 0 + raw0.length ≤ 256; omega), upd_same, hqw, ?_, Nat.zero_le _, hraw0, hans⟩ ?_ ?_
  · intro b hb
    simp only [List.mem_cons, List.not_mem_nil, or_false] at hb
    rcases hb with rfl | rfl | rfl
    · exact nt
    · exact npl
    · exact nbl
  · rintro σ H2 ⟨i, st, w, fu, raw, acc, v4, v5, v6, rfl, s2, TS, O, nb, hq2, hqw2, hwn, hi, hraw, hacc⟩
    refine ⟨_, rfl, _, rfl, a, _, rfl, .inl (s2.seq hS), _, _, rfl, rfl, _, rfl, ite2 (fun hc => ?_) (fun hc => ?_)⟩
    · simp only [decide_eq_true_eq, List.length_map] at hc
      have hlt : i < ns.length := by omega
      have ed : ns.drop i = ns[i] :: ns.drop (i + 1) := List.drop_eq_getElem_cons hlt
      rw [ed] at hraw
      obtain ⟨fu', qn, n, raw', hqn, hpn, hcn, hn, rfl, hraw'⟩ := calls_cons hraw
      rw [List.length_drop] at hn
      rw [List.drop_drop] at hraw'
      have hget : (ns.map V.int)[i]? = some (V.int (qn : Int)) := by
        rw [List.getElem?_map, List.getElem?_eq_getElem hlt, hpn]
        rfl
      have hcv : countsV[qn]? = some (V.int (n : Int)) := by
        unfold countsV
        rw [List.getElem?_map, hcn]
        rfl
      refine ⟨_, rfl, _, rfl, a, _, _, _, rfl, rfl, s2.seq hS, at_of (j := i) rfl hget, ?_⟩
      refine ⟨_, rfl, _, _, rfl, rfl, _, rfl, aT, _, _, _, rfl, rfl, tT.sq H2, at_of (j := qn) rfl hcv, _, _, rfl, rfl, ?_⟩
      have eb : (i : Int) + 1 + (n : Int) = ((i + 1 + n : Nat) : Int) := by omega
      refine ⟨_, rfl, _, rfl, _, rfl, _, rfl, _, _, rfl, rfl, _, rfl, _, rfl, _, rfl, a, _, rfl, s2.seq hS, fun p3 hp3 => ?_⟩
      have ec : cutV (ns.map V.int) (some ((i : Int) + 1)) (some ((i : Int) + 1 + (n : Int))) = ((ns.drop (i + 1)).take n).map V.int := by
        rw [eb, show (i : Int) + 1 = ((i + 1 : Nat) : Int) by omega, cut_ints (by omega) (by omega), show i + 1 + n - (i + 1) = n by omega]
      rw [ec]
      have s3 : Same H2 (upd H2 p3 (.lst (((ns.drop (i + 1)).take n).map V.int))) := same_new hp3
      have TS3 : TabS C (upd H2 p3 (.lst (((ns.drop (i + 1)).take n).map V.int))) t w st := TS.same fun b o e _ => s3 b o e
      have hl3 : ((ns.drop (i + 1)).take n).length = n := by
        rw [List.length_take, List.length_drop]
        omega
      rw [hpn, List.length_cons] at nb
      refine ⟨t, p3, qn, st, w, (ns.drop (i + 1)).take n, rfl, hqn, TS3, O, by omega, SqL.of upd_same, by rw [hl3]; exact hcn, fun x hx => hpos x (List.mem_of_mem_drop (List.mem_of_mem_take hx)), ?_⟩
      intro H4 p4 w4 TS4 hp4 kp4 sub4 new4
      have tl := tell_cons hqn st ((ns.drop (i + 1)).take n) raw'
      rw [hpn, tl] at hacc
      obtain ⟨O4, nb4⟩ := ok_act O (callAt qn ((ns.drop (i + 1)).take n))
      generalize hrow : Kv351Neutral.row (Kv351.act st (callAt qn ((ns.drop (i + 1)).take n))).2 = rw4 at hp4 hacc
      generalize Kv351.act st (callAt qn ((ns.drop (i + 1)).take n)) = act4 at *
      have hq4 : H4 q = some (.lst (acc.map V.int)) := kp4 q _ (s3 _ _ hq2) hqw2
      have hll : acc.length + (1 + rw4.length) ≤ 10000000 := by
        have := congrArg List.length hacc
        rw [List.length_append, List.length_append, List.length_cons] at this
        omega
      have big : ∀ m : Nat, m ≤ 10000000 → m < sizeLine := fun m hm => Nat.lt_of_le_of_lt hm (by rw [sizeLine_eq]; decide)
      have np4 : p4 ≠ q := fun e => by rw [e, s3 _ _ hq2] at new4; cases new4
      refine ⟨_, rfl, .inl ⟨rfl, _, SqL.of hq4⟩, _, rfl, p4, _, rfl, .inl (SqL.of hp4), q, _, _, rfl, rfl, hq4, big _ (by rw [List.length_map]; omega), ?_⟩
      refine ⟨_, rfl, .inl ⟨rfl, _, SqL.of upd_same⟩, _, rfl, q, p4, _, _, rfl, rfl, upd_same, Eq.trans (upd_ne np4) hp4, ?_, ?_⟩
      · rw [List.length_append, List.length_map, List.length_map, List.length_singleton]
        exact Nat.le_of_lt (big _ (by omega))
      have el : acc.map V.int ++ [V.int (((rw4.map V.int).length : Nat) : Int)] ++ rw4.map V.int = (acc ++ ((rw4.length : Int) :: rw4)).map V.int := by
        rw [List.length_map, List.map_append, List.append_assoc]
        rfl
      rw [el]
      have s4 : Same H H4 := fun b o e => kp4 b o (s3 _ _ (s2 _ _ e)) (fun hb => by rw [hwn b hb] at e; cases e)
      have hqw4 : q ∉ w4 := fun hb => by
        rcases sub4 q hb with h | h
        · exact hqw2 h
        · rw [s3 _ _ hq2] at h; cases h
      refine ⟨_, rfl, ⟨i + 1 + n, act4.1, w4, fu', raw', acc ++ ((rw4.length : Int) :: rw4), some (.int (qn : Int)), some (.int ((i : Int) + 1 + (n : Int))), some (.ref p4), ?_, fun b o e => ?_, ?_, O4, by omega, upd_same, hqw4, fun b hb => ?_, by omega, hraw', ?_⟩, ?_⟩
      · rw [← eb]; rfl
      · rw [upd_ne (ne_of_none e hq0), upd_ne (ne_of_none e hq0)]
        exact s4 b o e
      · refine TS4.same fun b o e hb => ?_
        have : b ≠ q := fun z => hqw4 (z ▸ hb)
        rw [upd_ne this, upd_ne this]
        exact e
      · rcases sub4 b hb with h | h
        · exact hwn b h
        · exact s2.free (s3.free h)
      · rw [hacc, List.append_assoc]
      · show ns.length - ((i : Int) + 1 + (n : Int)).toNat < ns.length - ((i : Int)).toNat
        omega
    · simp only [decide_eq_true_eq, List.length_map] at hc
      have he : i = ns.length := by omega
      subst he
      rw [List.drop_length] at hraw
      have hr := calls_nil hraw
      subst hr
      rw [tell_nil, List.append_nil] at hacc
      exact ⟨_, rfl, k H2 q (by rw [hacc]; exact hq2)⟩
  · rintro σ H2 Q1 Q2 hQ ⟨v, e1, v2, e2, p, ys, e3, h3, i, j, e4, e5, b, e6, hq6⟩
    exact ⟨v, e1, v2, e2, p, ys, e3, h3, i, j, e4, e5, b, e6, hQ _ _ hq6⟩
end
end BW
set_option Elab.async false
set_option linter.all false
set_option maxRecDepth 100000
set_option maxHeartbeats 4000000
namespace BW
open PySem PySem.Spec PyProof.Rows L2
open PySem.W (Codec)
theorem relV_abs : ∀ {u : Value} {x : V}, absV u = some x → RelV x u
  | .none, _, h => by cases h; rfl
  | .bool _, _, h => by cases h; rfl
  | .int _ t, _, h => by cases h; exact ⟨t, rfl⟩
  | .str _ t, _, h => by cases h; exact ⟨t, rfl⟩
  | .bytes _ t, _, h => by cases h; exact ⟨t, rfl⟩
  | .float _ t, _, h => by cases h; exact ⟨t, rfl⟩
  | .ref _, _, h => by cases h; rfl
  | .type _, _, h => by cases h; rfl
theorem vals_abs : ∀ {us : List Value} {xs : List V}, us.map absV = xs.map some → Vals xs us
  | [], [], _ => .nil
  | [], _ :: _, h => by simp at h
  | _ :: _, [], h => by simp at h
  | u :: us, x :: xs, h => by
    rw [List.map_cons, List.map_cons] at h
    injection h with h1 h2
    exact .cons (relV_abs h1) (vals_abs h2)
theorem all_mk {P : Program} {w : World} {K : PySem.W.Frag} {h : Heap} {mg : Str → Option Value} {fa C aC aT : Addr} (X : K.In h) (G : h.Ns mainGlobals mg) (hfa : mg "answers" = some (.ref fa))
    {f_WS : Addr} {od_WS an_WS : Option Addr} {sl_WS : Array (Option Value)} {oc_WS kV_WS dc_WS pm_WS cd_WS ct_WS : Value}
    {f_CS : Addr} {od_CS an_CS : Option Addr} {sl_CS : Array (Option Value)} {oc_CS kV_CS dc_CS pm_CS cd_CS ct_CS : Value}
    {f_BS : Addr} {od_BS an_BS : Option Addr} {sl_BS : Array (Option Value)} {oc_BS kV_BS dc_BS pm_BS cd_BS ct_BS : Value}
    {f_FP : Addr} {od_FP an_FP : Option Addr} {sl_FP : Array (Option Value)} {oc_FP kV_FP dc_FP pm_FP cd_FP ct_FP : Value}
    {f_MP : Addr} {od_MP an_MP : Option Addr} {sl_MP : Array (Option Value)} {oc_MP kV_MP dc_MP pm_MP cd_MP ct_MP : Value}
    {f_HW : Addr} {od_HW an_HW : Option Addr} {sl_HW : Array (Option Value)} {oc_HW kV_HW dc_HW pm_HW cd_HW ct_HW : Value}
    {f_PS : Addr} {od_PS an_PS : Option Addr} {sl_PS : Array (Option Value)} {oc_PS kV_PS dc_PS pm_PS cd_PS ct_PS : Value}
    {f_WR : Addr} {od_WR an_WR : Option Addr} {sl_WR : Array (Option Value)} {oc_WR kV_WR dc_WR pm_WR cd_WR ct_WR : Value}
    {f_c0 : Addr} {od_c0 an_c0 : Option Addr} {sl_c0 : Array (Option Value)} {oc_c0 kV_c0 dc_c0 pm_c0 cd_c0 ct_c0 : Value}
    {f_c1 : Addr} {od_c1 an_c1 : Option Addr} {sl_c1 : Array (Option Value)} {oc_c1 kV_c1 dc_c1 pm_c1 cd_c1 ct_c1 : Value}
    {f_c2 : Addr} {od_c2 an_c2 : Option Addr} {sl_c2 : Array (Option Value)} {oc_c2 kV_c2 dc_c2 pm_c2 cd_c2 ct_c2 : Value}
    {f_c3 : Addr} {od_c3 an_c3 : Option Addr} {sl_c3 : Array (Option Value)} {oc_c3 kV_c3 dc_c3 pm_c3 cd_c3 ct_c3 : Value}
    {f_c4 : Addr} {od_c4 an_c4 : Option Addr} {sl_c4 : Array (Option Value)} {oc_c4 kV_c4 dc_c4 pm_c4 cd_c4 ct_c4 : Value}
    {f_c5 : Addr} {od_c5 an_c5 : Option Addr} {sl_c5 : Array (Option Value)} {oc_c5 kV_c5 dc_c5 pm_c5 cd_c5 ct_c5 : Value}
    {f_c6 : Addr} {od_c6 an_c6 : Option Addr} {sl_c6 : Array (Option Value)} {oc_c6 kV_c6 dc_c6 pm_c6 cd_c6 ct_c6 : Value}
    {f_c7 : Addr} {od_c7 an_c7 : Option Addr} {sl_c7 : Array (Option Value)} {oc_c7 kV_c7 dc_c7 pm_c7 cd_c7 ct_c7 : Value}
    {f_c8 : Addr} {od_c8 an_c8 : Option Addr} {sl_c8 : Array (Option Value)} {oc_c8 kV_c8 dc_c8 pm_c8 cd_c8 ct_c8 : Value}
    {f_c9 : Addr} {od_c9 an_c9 : Option Addr} {sl_c9 : Array (Option Value)} {oc_c9 kV_c9 dc_c9 pm_c9 cd_c9 ct_c9 : Value}
    {f_c10 : Addr} {od_c10 an_c10 : Option Addr} {sl_c10 : Array (Option Value)} {oc_c10 kV_c10 dc_c10 pm_c10 cd_c10 ct_c10 : Value}
    {f_c11 : Addr} {od_c11 an_c11 : Option Addr} {sl_c11 : Array (Option Value)} {oc_c11 kV_c11 dc_c11 pm_c11 cd_c11 ct_c11 : Value}
    {f_c12 : Addr} {od_c12 an_c12 : Option Addr} {sl_c12 : Array (Option Value)} {oc_c12 kV_c12 dc_c12 pm_c12 cd_c12 ct_c12 : Value}
    {f_c13 : Addr} {od_c13 an_c13 : Option Addr} {sl_c13 : Array (Option Value)} {oc_c13 kV_c13 dc_c13 pm_c13 cd_c13 ct_c13 : Value}
    {f_c14 : Addr} {od_c14 an_c14 : Option Addr} {sl_c14 : Array (Option Value)} {oc_c14 kV_c14 dc_c14 pm_c14 cd_c14 ct_c14 : Value}
    {f_c15 : Addr} {od_c15 an_c15 : Option Addr} {sl_c15 : Array (Option Value)} {oc_c15 kV_c15 dc_c15 pm_c15 cd_c15 ct_c15 : Value}
    {f_c16 : Addr} {od_c16 an_c16 : Option Addr} {sl_c16 : Array (Option Value)} {oc_c16 kV_c16 dc_c16 pm_c16 cd_c16 ct_c16 : Value}
    {f_c17 : Addr} {od_c17 an_c17 : Option Addr} {sl_c17 : Array (Option Value)} {oc_c17 kV_c17 dc_c17 pm_c17 cd_c17 ct_c17 : Value}
    {f_c18 : Addr} {od_c18 an_c18 : Option Addr} {sl_c18 : Array (Option Value)} {oc_c18 kV_c18 dc_c18 pm_c18 cd_c18 ct_c18 : Value}
    {f_c19 : Addr} {od_c19 an_c19 : Option Addr} {sl_c19 : Array (Option Value)} {oc_c19 kV_c19 dc_c19 pm_c19 cd_c19 ct_c19 : Value}
    {f_c20 : Addr} {od_c20 an_c20 : Option Addr} {sl_c20 : Array (Option Value)} {oc_c20 kV_c20 dc_c20 pm_c20 cd_c20 ct_c20 : Value}
    {f_c21 : Addr} {od_c21 an_c21 : Option Addr} {sl_c21 : Array (Option Value)} {oc_c21 kV_c21 dc_c21 pm_c21 cd_c21 ct_c21 : Value}
    {f_c22 : Addr} {od_c22 an_c22 : Option Addr} {sl_c22 : Array (Option Value)} {oc_c22 kV_c22 dc_c22 pm_c22 cd_c22 ct_c22 : Value}
    {f_AC : Addr} {od_AC an_AC : Option Addr} {sl_AC : Array (Option Value)} {oc_AC kV_AC dc_AC pm_AC cd_AC ct_AC : Value}
    {f_AN : Addr} {od_AN an_AN : Option Addr} {sl_AN : Array (Option Value)} {oc_AN kV_AN dc_AN pm_AN cd_AN ct_AN : Value}
    {f_In : Addr} {od_In an_In : Option Addr} {sl_In : Array (Option Value)} {oc_In kV_In dc_In pm_In cd_In ct_In : Value}
    {f_Be : Addr} {od_Be an_Be : Option Addr} {sl_Be : Array (Option Value)} {oc_Be kV_Be dc_Be pm_Be cd_Be ct_Be : Value}
    {f_WA : Addr} {od_WA an_WA : Option Addr} {sl_WA : Array (Option Value)} {oc_WA kV_WA dc_WA pm_WA cd_WA ct_WA : Value}
    {f_CC : Addr} {od_CC an_CC : Option Addr} {sl_CC : Array (Option Value)} {oc_CC kV_CC dc_CC pm_CC cd_CC ct_CC : Value}
    {f_PC : Addr} {od_PC an_PC : Option Addr} {sl_PC : Array (Option Value)} {oc_PC kV_PC dc_PC pm_PC cd_PC ct_PC : Value}
    {odC odT : Option Addr} {slC slT : Array (Option Value)} {nC nT : Nat} {itC itT : Array Value} {tk_noSuch tk_noneThere tk_notBegun tk_tooLight tk_outOf tk_tooMany tk_notEnough tk_onTable tk_cameMost tk_pieceMost tk_gramsMost tk_mostNeeded tk_begin0 : Tok}
    (gC : PySem.W.nsIn K mainGlobals "Table" = some (some (.ref C)))
    (a_WS : PySem.W.nsIn K mainGlobals "weigh_sets" = some (some (.ref f_WS)))
    (l_WS : K.lookup f_WS = some ⟨oc_WS, od_WS, .func (PySem.W.fnOf "weigh_sets" "weigh_sets" (defArgs sWS) (defBody sWS) (defScope sWS) .none kV_WS dc_WS pm_WS an_WS cd_WS ct_WS), sl_WS⟩)
    (d_WS : PySem.W.codeIn K cd_WS "weigh_sets" = true)
    (k_WS : PySem.W.keepIn K (.ref f_WS) = true)
    (a_CS : PySem.W.nsIn K mainGlobals "count_sets" = some (some (.ref f_CS)))
    (l_CS : K.lookup f_CS = some ⟨oc_CS, od_CS, .func (PySem.W.fnOf "count_sets" "count_sets" (defArgs sCS) (defBody sCS) (defScope sCS) .none kV_CS dc_CS pm_CS an_CS cd_CS ct_CS), sl_CS⟩)
    (d_CS : PySem.W.codeIn K cd_CS "count_sets" = true)
    (k_CS : PySem.W.keepIn K (.ref f_CS) = true)
    (a_BS : PySem.W.nsIn K mainGlobals "best_set" = some (some (.ref f_BS)))
    (l_BS : K.lookup f_BS = some ⟨oc_BS, od_BS, .func (PySem.W.fnOf "best_set" "best_set" (defArgs sBS) (defBody sBS) (defScope sBS) .none kV_BS dc_BS pm_BS an_BS cd_BS ct_BS), sl_BS⟩)
    (d_BS : PySem.W.codeIn K cd_BS "best_set" = true)
    (k_BS : PySem.W.keepIn K (.ref f_BS) = true)
    (a_FP : PySem.W.nsIn K mainGlobals "fewest_pieces" = some (some (.ref f_FP)))
    (l_FP : K.lookup f_FP = some ⟨oc_FP, od_FP, .func (PySem.W.fnOf "fewest_pieces" "fewest_pieces" (defArgs sFP) (defBody sFP) (defScope sFP) .none kV_FP dc_FP pm_FP an_FP cd_FP ct_FP), sl_FP⟩)
    (d_FP : PySem.W.codeIn K cd_FP "fewest_pieces" = true)
    (k_FP : PySem.W.keepIn K (.ref f_FP) = true)
    (a_MP : PySem.W.nsIn K mainGlobals "most_pieces" = some (some (.ref f_MP)))
    (l_MP : K.lookup f_MP = some ⟨oc_MP, od_MP, .func (PySem.W.fnOf "most_pieces" "most_pieces" (defArgs sMP) (defBody sMP) (defScope sMP) .none kV_MP dc_MP pm_MP an_MP cd_MP ct_MP), sl_MP⟩)
    (d_MP : PySem.W.codeIn K cd_MP "most_pieces" = true)
    (k_MP : PySem.W.keepIn K (.ref f_MP) = true)
    (a_HW : PySem.W.nsIn K mainGlobals "heaviest_within" = some (some (.ref f_HW)))
    (l_HW : K.lookup f_HW = some ⟨oc_HW, od_HW, .func (PySem.W.fnOf "heaviest_within" "heaviest_within" (defArgs sHW) (defBody sHW) (defScope sHW) .none kV_HW dc_HW pm_HW an_HW cd_HW ct_HW), sl_HW⟩)
    (d_HW : PySem.W.codeIn K cd_HW "heaviest_within" = true)
    (k_HW : PySem.W.keepIn K (.ref f_HW) = true)
    (a_PS : PySem.W.nsIn K mainGlobals "part_by_set" = some (some (.ref f_PS)))
    (l_PS : K.lookup f_PS = some ⟨oc_PS, od_PS, .func (PySem.W.fnOf "part_by_set" "part_by_set" (defArgs sPS) (defBody sPS) (defScope sPS) .none kV_PS dc_PS pm_PS an_PS cd_PS ct_PS), sl_PS⟩)
    (d_PS : PySem.W.codeIn K cd_PS "part_by_set" = true)
    (k_PS : PySem.W.keepIn K (.ref f_PS) = true)
    (a_WR : PySem.W.nsIn K mainGlobals "weigh_row" = some (some (.ref f_WR)))
    (l_WR : K.lookup f_WR = some ⟨oc_WR, od_WR, .func (PySem.W.fnOf "weigh_row" "weigh_row" (defArgs sWR) (defBody sWR) (defScope sWR) .none kV_WR dc_WR pm_WR an_WR cd_WR ct_WR), sl_WR⟩)
    (d_WR : PySem.W.codeIn K cd_WR "weigh_row" = true)
    (k_WR : PySem.W.keepIn K (.ref f_WR) = true)
    (a_c0 : PySem.W.nsIn K mainGlobals "call_begin" = some (some (.ref f_c0)))
    (l_c0 : K.lookup f_c0 = some ⟨oc_c0, od_c0, .func (PySem.W.fnOf "call_begin" "call_begin" (defArgs sBegin0) (defBody sBegin0) (defScope sBegin0) .none kV_c0 dc_c0 pm_c0 an_c0 cd_c0 ct_c0), sl_c0⟩)
    (d_c0 : PySem.W.codeIn K cd_c0 "call_begin" = true)
    (k_c0 : PySem.W.keepIn K (.ref f_c0) = true)
    (a_c1 : PySem.W.nsIn K mainGlobals "call_piece" = some (some (.ref f_c1)))
    (l_c1 : K.lookup f_c1 = some ⟨oc_c1, od_c1, .func (PySem.W.fnOf "call_piece" "call_piece" (defArgs sPiece) (defBody sPiece) (defScope sPiece) .none kV_c1 dc_c1 pm_c1 an_c1 cd_c1 ct_c1), sl_c1⟩)
    (d_c1 : PySem.W.codeIn K cd_c1 "call_piece" = true)
    (k_c1 : PySem.W.keepIn K (.ref f_c1) = true)
    (a_c2 : PySem.W.nsIn K mainGlobals "call_take" = some (some (.ref f_c2)))
    (l_c2 : K.lookup f_c2 = some ⟨oc_c2, od_c2, .func (PySem.W.fnOf "call_take" "call_take" (defArgs sTake) (defBody sTake) (defScope sTake) .none kV_c2 dc_c2 pm_c2 an_c2 cd_c2 ct_c2), sl_c2⟩)
    (d_c2 : PySem.W.codeIn K cd_c2 "call_take" = true)
    (k_c2 : PySem.W.keepIn K (.ref f_c2) = true)
    (a_c3 : PySem.W.nsIn K mainGlobals "call_want" = some (some (.ref f_c3)))
    (l_c3 : K.lookup f_c3 = some ⟨oc_c3, od_c3, .func (PySem.W.fnOf "call_want" "call_want" (defArgs sWant) (defBody sWant) (defScope sWant) .none kV_c3 dc_c3 pm_c3 an_c3 cd_c3 ct_c3), sl_c3⟩)
    (d_c3 : PySem.W.codeIn K cd_c3 "call_want" = true)
    (k_c3 : PySem.W.keepIn K (.ref f_c3) = true)
    (a_c4 : PySem.W.nsIn K mainGlobals "call_pack" = some (some (.ref f_c4)))
    (l_c4 : K.lookup f_c4 = some ⟨oc_c4, od_c4, .func (PySem.W.fnOf "call_pack" "call_pack" (defArgs sPack) (defBody sPack) (defScope sPack) .none kV_c4 dc_c4 pm_c4 an_c4 cd_c4 ct_c4), sl_c4⟩)
    (d_c4 : PySem.W.codeIn K cd_c4 "call_pack" = true)
    (k_c4 : PySem.W.keepIn K (.ref f_c4) = true)
    (a_c5 : PySem.W.nsIn K mainGlobals "call_packset" = some (some (.ref f_c5)))
    (l_c5 : K.lookup f_c5 = some ⟨oc_c5, od_c5, .func (PySem.W.fnOf "call_packset" "call_packset" (defArgs sPackset) (defBody sPackset) (defScope sPackset) .none kV_c5 dc_c5 pm_c5 an_c5 cd_c5 ct_c5), sl_c5⟩)
    (d_c5 : PySem.W.codeIn K cd_c5 "call_packset" = true)
    (k_c5 : PySem.W.keepIn K (.ref f_c5) = true)
    (a_c6 : PySem.W.nsIn K mainGlobals "call_unpack" = some (some (.ref f_c6)))
    (l_c6 : K.lookup f_c6 = some ⟨oc_c6, od_c6, .func (PySem.W.fnOf "call_unpack" "call_unpack" (defArgs sUnpack) (defBody sUnpack) (defScope sUnpack) .none kV_c6 dc_c6 pm_c6 an_c6 cd_c6 ct_c6), sl_c6⟩)
    (d_c6 : PySem.W.codeIn K cd_c6 "call_unpack" = true)
    (k_c6 : PySem.W.keepIn K (.ref f_c6) = true)
    (a_c7 : PySem.W.nsIn K mainGlobals "call_best" = some (some (.ref f_c7)))
    (l_c7 : K.lookup f_c7 = some ⟨oc_c7, od_c7, .func (PySem.W.fnOf "call_best" "call_best" (defArgs sBest) (defBody sBest) (defScope sBest) .none kV_c7 dc_c7 pm_c7 an_c7 cd_c7 ct_c7), sl_c7⟩)
    (d_c7 : PySem.W.codeIn K cd_c7 "call_best" = true)
    (k_c7 : PySem.W.keepIn K (.ref f_c7) = true)
    (a_c8 : PySem.W.nsIn K mainGlobals "call_fewest" = some (some (.ref f_c8)))
    (l_c8 : K.lookup f_c8 = some ⟨oc_c8, od_c8, .func (PySem.W.fnOf "call_fewest" "call_fewest" (defArgs sFewest) (defBody sFewest) (defScope sFewest) .none kV_c8 dc_c8 pm_c8 an_c8 cd_c8 ct_c8), sl_c8⟩)
    (d_c8 : PySem.W.codeIn K cd_c8 "call_fewest" = true)
    (k_c8 : PySem.W.keepIn K (.ref f_c8) = true)
    (a_c9 : PySem.W.nsIn K mainGlobals "call_most" = some (some (.ref f_c9)))
    (l_c9 : K.lookup f_c9 = some ⟨oc_c9, od_c9, .func (PySem.W.fnOf "call_most" "call_most" (defArgs sMost) (defBody sMost) (defScope sMost) .none kV_c9 dc_c9 pm_c9 an_c9 cd_c9 ct_c9), sl_c9⟩)
    (d_c9 : PySem.W.codeIn K cd_c9 "call_most" = true)
    (k_c9 : PySem.W.keepIn K (.ref f_c9) = true)
    (a_c10 : PySem.W.nsIn K mainGlobals "call_ways" = some (some (.ref f_c10)))
    (l_c10 : K.lookup f_c10 = some ⟨oc_c10, od_c10, .func (PySem.W.fnOf "call_ways" "call_ways" (defArgs sWays) (defBody sWays) (defScope sWays) .none kV_c10 dc_c10 pm_c10 an_c10 cd_c10 ct_c10), sl_c10⟩)
    (d_c10 : PySem.W.codeIn K cd_c10 "call_ways" = true)
    (k_c10 : PySem.W.keepIn K (.ref f_c10) = true)
    (a_c11 : PySem.W.nsIn K mainGlobals "call_under" = some (some (.ref f_c11)))
    (l_c11 : K.lookup f_c11 = some ⟨oc_c11, od_c11, .func (PySem.W.fnOf "call_under" "call_under" (defArgs sUnder) (defBody sUnder) (defScope sUnder) .none kV_c11 dc_c11 pm_c11 an_c11 cd_c11 ct_c11), sl_c11⟩)
    (d_c11 : PySem.W.codeIn K cd_c11 "call_under" = true)
    (k_c11 : PySem.W.keepIn K (.ref f_c11) = true)
    (a_c12 : PySem.W.nsIn K mainGlobals "call_half" = some (some (.ref f_c12)))
    (l_c12 : K.lookup f_c12 = some ⟨oc_c12, od_c12, .func (PySem.W.fnOf "call_half" "call_half" (defArgs sHalf) (defBody sHalf) (defScope sHalf) .none kV_c12 dc_c12 pm_c12 an_c12 cd_c12 ct_c12), sl_c12⟩)
    (d_c12 : PySem.W.codeIn K cd_c12 "call_half" = true)
    (k_c12 : PySem.W.keepIn K (.ref f_c12) = true)
    (a_c13 : PySem.W.nsIn K mainGlobals "call_row" = some (some (.ref f_c13)))
    (l_c13 : K.lookup f_c13 = some ⟨oc_c13, od_c13, .func (PySem.W.fnOf "call_row" "call_row" (defArgs sRow) (defBody sRow) (defScope sRow) .none kV_c13 dc_c13 pm_c13 an_c13 cd_c13 ct_c13), sl_c13⟩)
    (d_c13 : PySem.W.codeIn K cd_c13 "call_row" = true)
    (k_c13 : PySem.W.keepIn K (.ref f_c13) = true)
    (a_c14 : PySem.W.nsIn K mainGlobals "call_weigh" = some (some (.ref f_c14)))
    (l_c14 : K.lookup f_c14 = some ⟨oc_c14, od_c14, .func (PySem.W.fnOf "call_weigh" "call_weigh" (defArgs sWeigh) (defBody sWeigh) (defScope sWeigh) .none kV_c14 dc_c14 pm_c14 an_c14 cd_c14 ct_c14), sl_c14⟩)
    (d_c14 : PySem.W.codeIn K cd_c14 "call_weigh" = true)
    (k_c14 : PySem.W.keepIn K (.ref f_c14) = true)
    (a_c15 : PySem.W.nsIn K mainGlobals "call_could" = some (some (.ref f_c15)))
    (l_c15 : K.lookup f_c15 = some ⟨oc_c15, od_c15, .func (PySem.W.fnOf "call_could" "call_could" (defArgs sCould) (defBody sCould) (defScope sCould) .none kV_c15 dc_c15 pm_c15 an_c15 cd_c15 ct_c15), sl_c15⟩)
    (d_c15 : PySem.W.codeIn K cd_c15 "call_could" = true)
    (k_c15 : PySem.W.keepIn K (.ref f_c15) = true)
    (a_c16 : PySem.W.nsIn K mainGlobals "call_need" = some (some (.ref f_c16)))
    (l_c16 : K.lookup f_c16 = some ⟨oc_c16, od_c16, .func (PySem.W.fnOf "call_need" "call_need" (defArgs sNeed) (defBody sNeed) (defScope sNeed) .none kV_c16 dc_c16 pm_c16 an_c16 cd_c16 ct_c16), sl_c16⟩)
    (d_c16 : PySem.W.codeIn K cd_c16 "call_need" = true)
    (k_c16 : PySem.W.keepIn K (.ref f_c16) = true)
    (a_c17 : PySem.W.nsIn K mainGlobals "call_heaviest" = some (some (.ref f_c17)))
    (l_c17 : K.lookup f_c17 = some ⟨oc_c17, od_c17, .func (PySem.W.fnOf "call_heaviest" "call_heaviest" (defArgs sHeaviest) (defBody sHeaviest) (defScope sHeaviest) .none kV_c17 dc_c17 pm_c17 an_c17 cd_c17 ct_c17), sl_c17⟩)
    (d_c17 : PySem.W.codeIn K cd_c17 "call_heaviest" = true)
    (k_c17 : PySem.W.keepIn K (.ref f_c17) = true)
    (a_c18 : PySem.W.nsIn K mainGlobals "call_between" = some (some (.ref f_c18)))
    (l_c18 : K.lookup f_c18 = some ⟨oc_c18, od_c18, .func (PySem.W.fnOf "call_between" "call_between" (defArgs sBetween) (defBody sBetween) (defScope sBetween) .none kV_c18 dc_c18 pm_c18 an_c18 cd_c18 ct_c18), sl_c18⟩)
    (d_c18 : PySem.W.codeIn K cd_c18 "call_between" = true)
    (k_c18 : PySem.W.keepIn K (.ref f_c18) = true)
    (a_c19 : PySem.W.nsIn K mainGlobals "call_middle" = some (some (.ref f_c19)))
    (l_c19 : K.lookup f_c19 = some ⟨oc_c19, od_c19, .func (PySem.W.fnOf "call_middle" "call_middle" (defArgs sMiddle) (defBody sMiddle) (defScope sMiddle) .none kV_c19 dc_c19 pm_c19 an_c19 cd_c19 ct_c19), sl_c19⟩)
    (d_c19 : PySem.W.codeIn K cd_c19 "call_middle" = true)
    (k_c19 : PySem.W.keepIn K (.ref f_c19) = true)
    (a_c20 : PySem.W.nsIn K mainGlobals "call_basket" = some (some (.ref f_c20)))
    (l_c20 : K.lookup f_c20 = some ⟨oc_c20, od_c20, .func (PySem.W.fnOf "call_basket" "call_basket" (defArgs sBasket) (defBody sBasket) (defScope sBasket) .none kV_c20 dc_c20 pm_c20 an_c20 cd_c20 ct_c20), sl_c20⟩)
    (d_c20 : PySem.W.codeIn K cd_c20 "call_basket" = true)
    (k_c20 : PySem.W.keepIn K (.ref f_c20) = true)
    (a_c21 : PySem.W.nsIn K mainGlobals "call_sums" = some (some (.ref f_c21)))
    (l_c21 : K.lookup f_c21 = some ⟨oc_c21, od_c21, .func (PySem.W.fnOf "call_sums" "call_sums" (defArgs sSums) (defBody sSums) (defScope sSums) .none kV_c21 dc_c21 pm_c21 an_c21 cd_c21 ct_c21), sl_c21⟩)
    (d_c21 : PySem.W.codeIn K cd_c21 "call_sums" = true)
    (k_c21 : PySem.W.keepIn K (.ref f_c21) = true)
    (a_c22 : PySem.W.nsIn K mainGlobals "call_state" = some (some (.ref f_c22)))
    (l_c22 : K.lookup f_c22 = some ⟨oc_c22, od_c22, .func (PySem.W.fnOf "call_state" "call_state" (defArgs sState) (defBody sState) (defScope sState) .none kV_c22 dc_c22 pm_c22 an_c22 cd_c22 ct_c22), sl_c22⟩)
    (d_c22 : PySem.W.codeIn K cd_c22 "call_state" = true)
    (k_c22 : PySem.W.keepIn K (.ref f_c22) = true)
    (a_AC : PySem.W.nsIn K mainGlobals "answer_call" = some (some (.ref f_AC)))
    (l_AC : K.lookup f_AC = some ⟨oc_AC, od_AC, .func (PySem.W.fnOf "answer_call" "answer_call" (defArgs sAC) (defBody sAC) (defScope sAC) .none kV_AC dc_AC pm_AC an_AC cd_AC ct_AC), sl_AC⟩)
    (d_AC : PySem.W.codeIn K cd_AC "answer_call" = true)
    (k_AC : PySem.W.keepIn K (.ref f_AC) = true)
    (a_AN : PySem.W.nsIn K mainGlobals "answers" = some (some (.ref f_AN)))
    (l_AN : K.lookup f_AN = some ⟨oc_AN, od_AN, .func (PySem.W.fnOf "answers" "answers" (defArgs sAns) (defBody sAns) (defScope sAns) .none kV_AN dc_AN pm_AN an_AN cd_AN ct_AN), sl_AN⟩)
    (d_AN : PySem.W.codeIn K cd_AN "answers" = true)
    (k_AN : PySem.W.keepIn K (.ref f_AN) = true)
    (a_In : PySem.W.findIn K (.ref C) "__init__" = some (some (.ref f_In)))
    (i_In : PySem.W.isFn K (.ref f_In) = true)
    (l_In : K.lookup f_In = some ⟨oc_In, od_In, .func (PySem.W.fnOf "__init__" "Table.__init__" (defArgs sInit) (defBody sInit) (defScope sInit) .none kV_In dc_In pm_In an_In cd_In ct_In), sl_In⟩)
    (d_In : PySem.W.codeIn K cd_In "Table.__init__" = true)
    (k_In : PySem.W.keepIn K (.ref f_In) = true)
    (a_Be : PySem.W.findIn K (.ref C) "begin_anew" = some (some (.ref f_Be)))
    (i_Be : PySem.W.isFn K (.ref f_Be) = true)
    (l_Be : K.lookup f_Be = some ⟨oc_Be, od_Be, .func (PySem.W.fnOf "begin_anew" "Table.begin_anew" (defArgs sBegin) (defBody sBegin) (defScope sBegin) .none kV_Be dc_Be pm_Be an_Be cd_Be ct_Be), sl_Be⟩)
    (d_Be : PySem.W.codeIn K cd_Be "Table.begin_anew" = true)
    (k_Be : PySem.W.keepIn K (.ref f_Be) = true)
    (a_WA : PySem.W.findIn K (.ref C) "weigh_all" = some (some (.ref f_WA)))
    (i_WA : PySem.W.isFn K (.ref f_WA) = true)
    (l_WA : K.lookup f_WA = some ⟨oc_WA, od_WA, .func (PySem.W.fnOf "weigh_all" "Table.weigh_all" (defArgs sWA) (defBody sWA) (defScope sWA) .none kV_WA dc_WA pm_WA an_WA cd_WA ct_WA), sl_WA⟩)
    (d_WA : PySem.W.codeIn K cd_WA "Table.weigh_all" = true)
    (k_WA : PySem.W.keepIn K (.ref f_WA) = true)
    (a_CC : PySem.W.findIn K (.ref C) "count_came" = some (some (.ref f_CC)))
    (i_CC : PySem.W.isFn K (.ref f_CC) = true)
    (l_CC : K.lookup f_CC = some ⟨oc_CC, od_CC, .func (PySem.W.fnOf "count_came" "Table.count_came" (defArgs sCC) (defBody sCC) (defScope sCC) .none kV_CC dc_CC pm_CC an_CC cd_CC ct_CC), sl_CC⟩)
    (d_CC : PySem.W.codeIn K cd_CC "Table.count_came" = true)
    (k_CC : PySem.W.keepIn K (.ref f_CC) = true)
    (a_PC : PySem.W.findIn K (.ref C) "pack_chosen" = some (some (.ref f_PC)))
    (i_PC : PySem.W.isFn K (.ref f_PC) = true)
    (l_PC : K.lookup f_PC = some ⟨oc_PC, od_PC, .func (PySem.W.fnOf "pack_chosen" "Table.pack_chosen" (defArgs sPC) (defBody sPC) (defScope sPC) .none kV_PC dc_PC pm_PC an_PC cd_PC ct_PC), sl_PC⟩)
    (d_PC : PySem.W.codeIn K cd_PC "Table.pack_chosen" = true)
    (k_PC : PySem.W.keepIn K (.ref f_PC) = true)
    (pg : PySem.W.plainGet K C Str.empty = true)
    (hd : PySem.W.hasDictIn K C = true)
    (po : PySem.W.plainOver K C = true)
    (sa : PySem.W.findIn K (.ref C) "__setattr__" = some (some (.builtin "object.__setattr__")))
    (mk : PySem.W.makesIn K C = true)
    (kc : PySem.W.keepIn K (.ref C) = true)
    (n_begun : PySem.W.findIn K (.ref C) "begun" = some none)
    (n_wanted : PySem.W.findIn K (.ref C) "wanted" = some none)
    (n_pieces : PySem.W.findIn K (.ref C) "pieces" = some none)
    (n_baskets : PySem.W.findIn K (.ref C) "baskets" = some none)
    (z_len : PySem.W.nsIn K mainGlobals "len" = some none)
    (z_sum : PySem.W.nsIn K mainGlobals "sum" = some none)
    (z_min : PySem.W.nsIn K mainGlobals "min" = some none)
    (z_max : PySem.W.nsIn K mainGlobals "max" = some none)
    (z_sorted : PySem.W.nsIn K mainGlobals "sorted" = some none)
    (z_range : PySem.W.nsIn K mainGlobals "range" = some none)
    (z_list : PySem.W.nsIn K mainGlobals "list" = some none)
    (z_enumerate : PySem.W.nsIn K mainGlobals "enumerate" = some none)
    (g_noSuch : PySem.W.nsIn K mainGlobals "NO_SUCH" = some (some (.int (-2) tk_noSuch)))
    (g_noneThere : PySem.W.nsIn K mainGlobals "NONE_THERE" = some (some (.int (-6) tk_noneThere)))
    (g_notBegun : PySem.W.nsIn K mainGlobals "NOT_BEGUN" = some (some (.int (-11) tk_notBegun)))
    (g_tooLight : PySem.W.nsIn K mainGlobals "TOO_LIGHT" = some (some (.int (-12) tk_tooLight)))
    (g_outOf : PySem.W.nsIn K mainGlobals "OUT_OF_RANGE" = some (some (.int (-22) tk_outOf)))
    (g_tooMany : PySem.W.nsIn K mainGlobals "TOO_MANY" = some (some (.int (-28) tk_tooMany)))
    (g_notEnough : PySem.W.nsIn K mainGlobals "NOT_ENOUGH" = some (some (.int (-33) tk_notEnough)))
    (g_onTable : PySem.W.nsIn K mainGlobals "MOST_ON_TABLE" = some (some (.int (9) tk_onTable)))
    (g_cameMost : PySem.W.nsIn K mainGlobals "MOST_THAT_CAME" = some (some (.int (60) tk_cameMost)))
    (g_pieceMost : PySem.W.nsIn K mainGlobals "MOST_PIECE_GRAMS" = some (some (.int (1000) tk_pieceMost)))
    (g_gramsMost : PySem.W.nsIn K mainGlobals "MOST_GRAMS" = some (some (.int (10000) tk_gramsMost)))
    (g_mostNeeded : PySem.W.nsIn K mainGlobals "MOST_NEEDED" = some (some (.int (1000) tk_mostNeeded)))
    (g_begin0 : PySem.W.nsIn K mainGlobals "BEGIN" = some (some (.int (0) tk_begin0)))
    (gCalls : PySem.W.nsIn K mainGlobals "CALLS" = some (some (.ref aC)))
    (lCalls : K.lookup aC = some ⟨.type "tuple", odC, .seq itC nC, slC⟩)
    (eCalls : itC.toList = [Value.ref f_c0, Value.ref f_c1, Value.ref f_c2, Value.ref f_c3, Value.ref f_c4, Value.ref f_c5, Value.ref f_c6, Value.ref f_c7, Value.ref f_c8, Value.ref f_c9, Value.ref f_c10, Value.ref f_c11, Value.ref f_c12, Value.ref f_c13, Value.ref f_c14, Value.ref f_c15, Value.ref f_c16, Value.ref f_c17, Value.ref f_c18, Value.ref f_c19, Value.ref f_c20, Value.ref f_c21, Value.ref f_c22])
    (gTold : PySem.W.nsIn K mainGlobals "TOLD_COUNTS" = some (some (.ref aT)))
    (lTold : K.lookup aT = some ⟨.type "tuple", odT, .seq itT nT, slT⟩)
    (eTold : itT.toList.map absV = countsV.map some)
    : ∃ fd : FuncData, (∀ (s : Shared) (us : List Value), us.length = (["calls"] : List Str).length → BindsTo s fd ⟨us, []⟩ ((["calls"] : List Str).zip us)) ∧ ∀ base : Heap, K.In base → base.Ns mainGlobals mg → FnOk P w K mg base CX0 7 fa fd ["calls"] (spAns K) := by
  have e := hfa.symm.trans (PySem.W.mg_of X G a_AN)
  cases e
  have T : Txt K mg C := ⟨⟨pg, hd, po, sa⟩, n_begun, n_wanted, n_pieces, n_baskets, PySem.W.mg_of X G gC, PySem.W.mg_none_of X G z_len, PySem.W.mg_none_of X G z_sum, PySem.W.mg_none_of X G z_min, PySem.W.mg_none_of X G z_max, PySem.W.mg_none_of X G z_sorted, PySem.W.mg_none_of X G z_range, PySem.W.mg_none_of X G z_list, PySem.W.mg_none_of X G z_enumerate⟩
  have c : Cst mg := ⟨⟨_, PySem.W.mg_of X G g_noSuch⟩, ⟨_, PySem.W.mg_of X G g_noneThere⟩, ⟨_, PySem.W.mg_of X G g_notBegun⟩, ⟨_, PySem.W.mg_of X G g_tooLight⟩, ⟨_, PySem.W.mg_of X G g_outOf⟩, ⟨_, PySem.W.mg_of X G g_tooMany⟩, ⟨_, PySem.W.mg_of X G g_notEnough⟩, ⟨_, PySem.W.mg_of X G g_onTable⟩, ⟨_, PySem.W.mg_of X G g_cameMost⟩, ⟨_, PySem.W.mg_of X G g_pieceMost⟩, ⟨_, PySem.W.mg_of X G g_gramsMost⟩, ⟨_, PySem.W.mg_of X G g_mostNeeded⟩, ⟨_, PySem.W.mg_of X G g_begin0⟩⟩
  have F_WS := fun_mk (st := sWS) l_WS d_WS k_WS
  have b_WS := F_WS.binds (ps := ["pieces"]) fun _ _ _ _ _ _ us hl => match us, hl with | [_], _ => rfl
  have D_WS : Def K mg "weigh_sets" sWS ["pieces"] f_WS _ := ⟨F_WS, b_WS, PySem.W.mg_of X G a_WS⟩
  have F_CS := fun_mk (st := sCS) l_CS d_CS k_CS
  have b_CS := F_CS.binds (ps := ["pieces"]) fun _ _ _ _ _ _ us hl => match us, hl with | [_], _ => rfl
  have D_CS : Def K mg "count_sets" sCS ["pieces"] f_CS _ := ⟨F_CS, b_CS, PySem.W.mg_of X G a_CS⟩
  have F_BS := fun_mk (st := sBS) l_BS d_BS k_BS
  have b_BS := F_BS.binds (ps := ["pieces", "least"]) fun _ _ _ _ _ _ us hl => match us, hl with | [_, _], _ => rfl
  have D_BS : Def K mg "best_set" sBS ["pieces", "least"] f_BS _ := ⟨F_BS, b_BS, PySem.W.mg_of X G a_BS⟩
  have F_FP := fun_mk (st := sFP) l_FP d_FP k_FP
  have b_FP := F_FP.binds (ps := ["pieces", "least"]) fun _ _ _ _ _ _ us hl => match us, hl with | [_, _], _ => rfl
  have D_FP : Def K mg "fewest_pieces" sFP ["pieces", "least"] f_FP _ := ⟨F_FP, b_FP, PySem.W.mg_of X G a_FP⟩
  have F_MP := fun_mk (st := sMP) l_MP d_MP k_MP
  have b_MP := F_MP.binds (ps := ["pieces", "limit"]) fun _ _ _ _ _ _ us hl => match us, hl with | [_, _], _ => rfl
  have D_MP : Def K mg "most_pieces" sMP ["pieces", "limit"] f_MP _ := ⟨F_MP, b_MP, PySem.W.mg_of X G a_MP⟩
  have F_HW := fun_mk (st := sHW) l_HW d_HW k_HW
  have b_HW := F_HW.binds (ps := ["pieces", "limit"]) fun _ _ _ _ _ _ us hl => match us, hl with | [_, _], _ => rfl
  have D_HW : Def K mg "heaviest_within" sHW ["pieces", "limit"] f_HW _ := ⟨F_HW, b_HW, PySem.W.mg_of X G a_HW⟩
  have F_PS := fun_mk (st := sPS) l_PS d_PS k_PS
  have b_PS := F_PS.binds (ps := ["pieces", "chosen"]) fun _ _ _ _ _ _ us hl => match us, hl with | [_, _], _ => rfl
  have D_PS : Def K mg "part_by_set" sPS ["pieces", "chosen"] f_PS _ := ⟨F_PS, b_PS, PySem.W.mg_of X G a_PS⟩
  have F_WR := fun_mk (st := sWR) l_WR d_WR k_WR
  have b_WR := F_WR.binds (ps := ["pieces", "wanted"]) fun _ _ _ _ _ _ us hl => match us, hl with | [_, _], _ => rfl
  have D_WR : Def K mg "weigh_row" sWR ["pieces", "wanted"] f_WR _ := ⟨F_WR, b_WR, PySem.W.mg_of X G a_WR⟩
  have F_c0 := fun_mk (st := sBegin0) l_c0 d_c0 k_c0
  have b_c0 := F_c0.binds (ps := ["table", "told"]) fun _ _ _ _ _ _ us hl => match us, hl with | [_, _], _ => rfl
  have D_c0 : Def K mg "call_begin" sBegin0 ["table", "told"] f_c0 _ := ⟨F_c0, b_c0, PySem.W.mg_of X G a_c0⟩
  have F_c1 := fun_mk (st := sPiece) l_c1 d_c1 k_c1
  have b_c1 := F_c1.binds (ps := ["table", "told"]) fun _ _ _ _ _ _ us hl => match us, hl with | [_, _], _ => rfl
  have D_c1 : Def K mg "call_piece" sPiece ["table", "told"] f_c1 _ := ⟨F_c1, b_c1, PySem.W.mg_of X G a_c1⟩
  have F_c2 := fun_mk (st := sTake) l_c2 d_c2 k_c2
  have b_c2 := F_c2.binds (ps := ["table", "told"]) fun _ _ _ _ _ _ us hl => match us, hl with | [_, _], _ => rfl
  have D_c2 : Def K mg "call_take" sTake ["table", "told"] f_c2 _ := ⟨F_c2, b_c2, PySem.W.mg_of X G a_c2⟩
  have F_c3 := fun_mk (st := sWant) l_c3 d_c3 k_c3
  have b_c3 := F_c3.binds (ps := ["table", "told"]) fun _ _ _ _ _ _ us hl => match us, hl with | [_, _], _ => rfl
  have D_c3 : Def K mg "call_want" sWant ["table", "told"] f_c3 _ := ⟨F_c3, b_c3, PySem.W.mg_of X G a_c3⟩
  have F_c4 := fun_mk (st := sPack) l_c4 d_c4 k_c4
  have b_c4 := F_c4.binds (ps := ["table", "told"]) fun _ _ _ _ _ _ us hl => match us, hl with | [_, _], _ => rfl
  have D_c4 : Def K mg "call_pack" sPack ["table", "told"] f_c4 _ := ⟨F_c4, b_c4, PySem.W.mg_of X G a_c4⟩
  have F_c5 := fun_mk (st := sPackset) l_c5 d_c5 k_c5
  have b_c5 := F_c5.binds (ps := ["table", "told"]) fun _ _ _ _ _ _ us hl => match us, hl with | [_, _], _ => rfl
  have D_c5 : Def K mg "call_packset" sPackset ["table", "told"] f_c5 _ := ⟨F_c5, b_c5, PySem.W.mg_of X G a_c5⟩
  have F_c6 := fun_mk (st := sUnpack) l_c6 d_c6 k_c6
  have b_c6 := F_c6.binds (ps := ["table", "told"]) fun _ _ _ _ _ _ us hl => match us, hl with | [_, _], _ => rfl
  have D_c6 : Def K mg "call_unpack" sUnpack ["table", "told"] f_c6 _ := ⟨F_c6, b_c6, PySem.W.mg_of X G a_c6⟩
  have F_c7 := fun_mk (st := sBest) l_c7 d_c7 k_c7
  have b_c7 := F_c7.binds (ps := ["table", "told"]) fun _ _ _ _ _ _ us hl => match us, hl with | [_, _], _ => rfl
  have D_c7 : Def K mg "call_best" sBest ["table", "told"] f_c7 _ := ⟨F_c7, b_c7, PySem.W.mg_of X G a_c7⟩
  have F_c8 := fun_mk (st := sFewest) l_c8 d_c8 k_c8
  have b_c8 := F_c8.binds (ps := ["table", "told"]) fun _ _ _ _ _ _ us hl => match us, hl with | [_, _], _ => rfl
  have D_c8 : Def K mg "call_fewest" sFewest ["table", "told"] f_c8 _ := ⟨F_c8, b_c8, PySem.W.mg_of X G a_c8⟩
  have F_c9 := fun_mk (st := sMost) l_c9 d_c9 k_c9
  have b_c9 := F_c9.binds (ps := ["table", "told"]) fun _ _ _ _ _ _ us hl => match us, hl with | [_, _], _ => rfl
  have D_c9 : Def K mg "call_most" sMost ["table", "told"] f_c9 _ := ⟨F_c9, b_c9, PySem.W.mg_of X G a_c9⟩
  have F_c10 := fun_mk (st := sWays) l_c10 d_c10 k_c10
  have b_c10 := F_c10.binds (ps := ["table", "told"]) fun _ _ _ _ _ _ us hl => match us, hl with | [_, _], _ => rfl
  have D_c10 : Def K mg "call_ways" sWays ["table", "told"] f_c10 _ := ⟨F_c10, b_c10, PySem.W.mg_of X G a_c10⟩
  have F_c11 := fun_mk (st := sUnder) l_c11 d_c11 k_c11
  have b_c11 := F_c11.binds (ps := ["table", "told"]) fun _ _ _ _ _ _ us hl => match us, hl with | [_, _], _ => rfl
  have D_c11 : Def K mg "call_under" sUnder ["table", "told"] f_c11 _ := ⟨F_c11, b_c11, PySem.W.mg_of X G a_c11⟩
  have F_c12 := fun_mk (st := sHalf) l_c12 d_c12 k_c12
  have b_c12 := F_c12.binds (ps := ["table", "told"]) fun _ _ _ _ _ _ us hl => match us, hl with | [_, _], _ => rfl
  have D_c12 : Def K mg "call_half" sHalf ["table", "told"] f_c12 _ := ⟨F_c12, b_c12, PySem.W.mg_of X G a_c12⟩
  have F_c13 := fun_mk (st := sRow) l_c13 d_c13 k_c13
  have b_c13 := F_c13.binds (ps := ["table", "told"]) fun _ _ _ _ _ _ us hl => match us, hl with | [_, _], _ => rfl
  have D_c13 : Def K mg "call_row" sRow ["table", "told"] f_c13 _ := ⟨F_c13, b_c13, PySem.W.mg_of X G a_c13⟩
  have F_c14 := fun_mk (st := sWeigh) l_c14 d_c14 k_c14
  have b_c14 := F_c14.binds (ps := ["table", "told"]) fun _ _ _ _ _ _ us hl => match us, hl with | [_, _], _ => rfl
  have D_c14 : Def K mg "call_weigh" sWeigh ["table", "told"] f_c14 _ := ⟨F_c14, b_c14, PySem.W.mg_of X G a_c14⟩
  have F_c15 := fun_mk (st := sCould) l_c15 d_c15 k_c15
  have b_c15 := F_c15.binds (ps := ["table", "told"]) fun _ _ _ _ _ _ us hl => match us, hl with | [_, _], _ => rfl
  have D_c15 : Def K mg "call_could" sCould ["table", "told"] f_c15 _ := ⟨F_c15, b_c15, PySem.W.mg_of X G a_c15⟩
  have F_c16 := fun_mk (st := sNeed) l_c16 d_c16 k_c16
  have b_c16 := F_c16.binds (ps := ["table", "told"]) fun _ _ _ _ _ _ us hl => match us, hl with | [_, _], _ => rfl
  have D_c16 : Def K mg "call_need" sNeed ["table", "told"] f_c16 _ := ⟨F_c16, b_c16, PySem.W.mg_of X G a_c16⟩
  have F_c17 := fun_mk (st := sHeaviest) l_c17 d_c17 k_c17
  have b_c17 := F_c17.binds (ps := ["table", "told"]) fun _ _ _ _ _ _ us hl => match us, hl with | [_, _], _ => rfl
  have D_c17 : Def K mg "call_heaviest" sHeaviest ["table", "told"] f_c17 _ := ⟨F_c17, b_c17, PySem.W.mg_of X G a_c17⟩
  have F_c18 := fun_mk (st := sBetween) l_c18 d_c18 k_c18
  have b_c18 := F_c18.binds (ps := ["table", "told"]) fun _ _ _ _ _ _ us hl => match us, hl with | [_, _], _ => rfl
  have D_c18 : Def K mg "call_between" sBetween ["table", "told"] f_c18 _ := ⟨F_c18, b_c18, PySem.W.mg_of X G a_c18⟩
  have F_c19 := fun_mk (st := sMiddle) l_c19 d_c19 k_c19
  have b_c19 := F_c19.binds (ps := ["table", "told"]) fun _ _ _ _ _ _ us hl => match us, hl with | [_, _], _ => rfl
  have D_c19 : Def K mg "call_middle" sMiddle ["table", "told"] f_c19 _ := ⟨F_c19, b_c19, PySem.W.mg_of X G a_c19⟩
  have F_c20 := fun_mk (st := sBasket) l_c20 d_c20 k_c20
  have b_c20 := F_c20.binds (ps := ["table", "told"]) fun _ _ _ _ _ _ us hl => match us, hl with | [_, _], _ => rfl
  have D_c20 : Def K mg "call_basket" sBasket ["table", "told"] f_c20 _ := ⟨F_c20, b_c20, PySem.W.mg_of X G a_c20⟩
  have F_c21 := fun_mk (st := sSums) l_c21 d_c21 k_c21
  have b_c21 := F_c21.binds (ps := ["table", "told"]) fun _ _ _ _ _ _ us hl => match us, hl with | [_, _], _ => rfl
  have D_c21 : Def K mg "call_sums" sSums ["table", "told"] f_c21 _ := ⟨F_c21, b_c21, PySem.W.mg_of X G a_c21⟩
  have F_c22 := fun_mk (st := sState) l_c22 d_c22 k_c22
  have b_c22 := F_c22.binds (ps := ["table", "told"]) fun _ _ _ _ _ _ us hl => match us, hl with | [_, _], _ => rfl
  have D_c22 : Def K mg "call_state" sState ["table", "told"] f_c22 _ := ⟨F_c22, b_c22, PySem.W.mg_of X G a_c22⟩
  have F_AC := fun_mk (st := sAC) l_AC d_AC k_AC
  have b_AC := F_AC.binds (ps := ["table", "number", "told"]) fun _ _ _ _ _ _ us hl => match us, hl with | [_, _, _], _ => rfl
  have D_AC : Def K mg "answer_call" sAC ["table", "number", "told"] f_AC _ := ⟨F_AC, b_AC, PySem.W.mg_of X G a_AC⟩
  have F_AN := fun_mk (st := sAns) l_AN d_AN k_AN
  have b_AN := F_AN.binds (ps := ["calls"]) fun _ _ _ _ _ _ us hl => match us, hl with | [_], _ => rfl
  have F_In := fun_mk (st := sInit) l_In d_In k_In
  have b_In := F_In.binds (ps := ["self"]) fun _ _ _ _ _ _ us hl => match us, hl with | [_], _ => rfl
  have M_In : Met K C "__init__" "Table.__init__" sInit ["self"] f_In _ := ⟨F_In, b_In, ⟨a_In, i_In, k_In⟩⟩
  have F_Be := fun_mk (st := sBegin) l_Be d_Be k_Be
  have b_Be := F_Be.binds (ps := ["self", "wanted"]) fun _ _ _ _ _ _ us hl => match us, hl with | [_, _], _ => rfl
  have M_Be : Met K C "begin_anew" "Table.begin_anew" sBegin ["self", "wanted"] f_Be _ := ⟨F_Be, b_Be, ⟨a_Be, i_Be, k_Be⟩⟩
  have F_WA := fun_mk (st := sWA) l_WA d_WA k_WA
  have b_WA := F_WA.binds (ps := ["self"]) fun _ _ _ _ _ _ us hl => match us, hl with | [_], _ => rfl
  have M_WA : Met K C "weigh_all" "Table.weigh_all" sWA ["self"] f_WA _ := ⟨F_WA, b_WA, ⟨a_WA, i_WA, k_WA⟩⟩
  have F_CC := fun_mk (st := sCC) l_CC d_CC k_CC
  have b_CC := F_CC.binds (ps := ["self"]) fun _ _ _ _ _ _ us hl => match us, hl with | [_], _ => rfl
  have M_CC : Met K C "count_came" "Table.count_came" sCC ["self"] f_CC _ := ⟨F_CC, b_CC, ⟨a_CC, i_CC, k_CC⟩⟩
  have F_PC := fun_mk (st := sPC) l_PC d_PC k_PC
  have b_PC := F_PC.binds (ps := ["self", "chosen"]) fun _ _ _ _ _ _ us hl => match us, hl with | [_, _], _ => rfl
  have M_PC : Met K C "pack_chosen" "Table.pack_chosen" sPC ["self", "chosen"] f_PC _ := ⟨F_PC, b_PC, ⟨a_PC, i_PC, k_PC⟩⟩
  have tC : TupK K aC [V.ref f_c0, V.ref f_c1, V.ref f_c2, V.ref f_c3, V.ref f_c4, V.ref f_c5, V.ref f_c6, V.ref f_c7, V.ref f_c8, V.ref f_c9, V.ref f_c10, V.ref f_c11, V.ref f_c12, V.ref f_c13, V.ref f_c14, V.ref f_c15, V.ref f_c16, V.ref f_c17, V.ref f_c18, V.ref f_c19, V.ref f_c20, V.ref f_c21, V.ref f_c22] := ⟨_, itC, nC, lCalls, rfl, rfl, by
    have e : itC.size = 23 := by rw [← Array.length_toList, eCalls]; rfl
    rw [e, sizeLine_eq]; decide, by rw [eCalls]; exact (.cons rfl (.cons rfl (.cons rfl (.cons rfl (.cons rfl (.cons rfl (.cons rfl (.cons rfl (.cons rfl (.cons rfl (.cons rfl (.cons rfl (.cons rfl (.cons rfl (.cons rfl (.cons rfl (.cons rfl (.cons rfl (.cons rfl (.cons rfl (.cons rfl (.cons rfl (.cons rfl .nil)))))))))))))))))))))))⟩
  have vT := vals_abs eTold
  have tT : TupK K aT countsV := ⟨_, itT, nT, lTold, rfl, rfl, by
    have e := vT.length
    have el : itT.toList.length = itT.size := by simp
    rw [el] at e
    rw [← e, sizeLine_eq]; decide, vT⟩
  refine ⟨PySem.W.fnOf "answers" "answers" (defArgs sAns) (defBody sAns) (defScope sAns) .none kV_AN dc_AN pm_AN an_AN cd_AN ct_AN, fun s us hu => match us, hu with | [_], _ => .of_eq rfl, fun base _ _ => ?_⟩
  have GBS : FnOk P w K mg base CX0 3 f_BS _ ["pieces", "least"] (spBS K) := ok_bs F_BS F_WS b_WS D_WS.gl F_CS b_CS D_CS.gl T.bLen T.bRange T.bMin
  have GPC : FnOk P w K mg base CX0 2 f_PC _ ["self", "chosen"] (spPC C) := ok_pc F_PC T D_PS
  have GHW : FnOk P w K mg base CX0 2 f_HW _ ["pieces", "limit"] (spHW K) := ok_hw F_HW F_WS b_WS D_WS.gl T.bMax
  have GWR : FnOk P w K mg base CX0 4 f_WR _ ["pieces", "wanted"] (spWR K) := ok_wr F_WR F_BS b_BS D_BS.gl GBS F_PS b_PS D_PS.gl T.bSum
  have GCalls : CallsOk P w K mg base C [V.ref f_c0, V.ref f_c1, V.ref f_c2, V.ref f_c3, V.ref f_c4, V.ref f_c5, V.ref f_c6, V.ref f_c7, V.ref f_c8, V.ref f_c9, V.ref f_c10, V.ref f_c11, V.ref f_c12, V.ref f_c13, V.ref f_c14, V.ref f_c15, V.ref f_c16, V.ref f_c17, V.ref f_c18, V.ref f_c19, V.ref f_c20, V.ref f_c21, V.ref f_c22] := by
    intro q hq
    rcases upto hq with e | e | e | e | e | e | e | e | e | e | e | e | e | e | e | e | e | e | e | e | e | e | e <;> subst e
    · exact ⟨f_c0, _, rfl, (ok_c0 F_c0 T c M_Be).mono (by decide), k_c0, b_c0⟩
    · exact ⟨f_c1, _, rfl, (ok_c1 F_c1 T c M_CC M_WA).mono (by decide), k_c1, b_c1⟩
    · exact ⟨f_c2, _, rfl, (ok_c2 F_c2 T c).mono (by decide), k_c2, b_c2⟩
    · exact ⟨f_c3, _, rfl, (ok_c3 F_c3 T c).mono (by decide), k_c3, b_c3⟩
    · exact ⟨f_c4, _, rfl, (ok_c4 F_c4 T c M_WA M_PC D_BS GBS GPC).mono (by decide), k_c4, b_c4⟩
    · exact ⟨f_c5, _, rfl, (ok_c5 F_c5 T c M_PC D_WS GPC).mono (by decide), k_c5, b_c5⟩
    · exact ⟨f_c6, _, rfl, (ok_c6 F_c6 T c).mono (by decide), k_c6, b_c6⟩
    · exact ⟨f_c7, _, rfl, (ok_c7 F_c7 T c M_WA D_BS GBS).mono (by decide), k_c7, b_c7⟩
    · exact ⟨f_c8, _, rfl, (ok_c8 F_c8 T c M_WA D_FP).mono (by decide), k_c8, b_c8⟩
    · exact ⟨f_c9, _, rfl, (ok_c9 F_c9 T c D_MP).mono (by decide), k_c9, b_c9⟩
    · exact ⟨f_c10, _, rfl, (ok_c10 F_c10 T c D_WS).mono (by decide), k_c10, b_c10⟩
    · exact ⟨f_c11, _, rfl, (ok_c11 F_c11 T c D_HW GHW).mono (by decide), k_c11, b_c11⟩
    · exact ⟨f_c12, _, rfl, (ok_c12 F_c12 T M_WA D_HW GHW).mono (by decide), k_c12, b_c12⟩
    · exact ⟨f_c13, _, rfl, (ok_c13 F_c13 T D_WR GWR).mono (by decide), k_c13, b_c13⟩
    · exact ⟨f_c14, _, rfl, (ok_c14 F_c14 T c D_WS D_CS).mono (by decide), k_c14, b_c14⟩
    · exact ⟨f_c15, _, rfl, (ok_c15 F_c15 T c M_WA).mono (by decide), k_c15, b_c15⟩
    · exact ⟨f_c16, _, rfl, (ok_c16 F_c16 T c M_WA).mono (by decide), k_c16, b_c16⟩
    · exact ⟨f_c17, _, rfl, (ok_c17 F_c17 T c).mono (by decide), k_c17, b_c17⟩
    · exact ⟨f_c18, _, rfl, (ok_c18 F_c18 T c).mono (by decide), k_c18, b_c18⟩
    · exact ⟨f_c19, _, rfl, (ok_c19 F_c19 T c M_WA).mono (by decide), k_c19, b_c19⟩
    · exact ⟨f_c20, _, rfl, (ok_c20 F_c20 T c).mono (by decide), k_c20, b_c20⟩
    · exact ⟨f_c21, _, rfl, (ok_c21 F_c21 T M_CC M_WA).mono (by decide), k_c21, b_c21⟩
    · exact ⟨f_c22, _, rfl, (ok_c22 F_c22 T).mono (by decide), k_c22, b_c22⟩
  have GAC := ok_ac F_AC T c (PySem.W.mg_of X G gCalls) tC GCalls
  exact ok_ans F_AN T ⟨mk, a_In, i_In, kc⟩ F_In b_In D_AC GAC (PySem.W.mg_of X G gTold) tT
end BW
open PySem PySem.W PyProof.Rows
set_option maxRecDepth 100000 in
set_option maxHeartbeats 0 in
theorem PySem.Challenge.cw_basketweights_s01_answers_holds : PySem.Challenge.rw_basketweights_s01_answers.Holds := by
  w_on; k_headS; (case hw => exact ⟨[.list [.int 4]], by decide +kernel, by decide +kernel⟩)
  k_fillS
  refine L2.walk_specK (r := PySem.Challenge.rw_basketweights_s01_answers) (k := 7) (CX := L2.CX0) (ps := ["calls"]) (sp := BW.spAns) (by decide +kernel) rfl rfl ⟨rfl, by decide, by decide⟩ (fun w h Y => PySem.W.kIn_of Y) ?F ?S (fun _ _ _ _ z => z)
  case F =>
    intro w mg fa h Y KX G hmg
    refine' BW.all_mk KX G hmg ?gC ?a_WS ?l_WS ?d_WS ?k_WS ?a_CS ?l_CS ?d_CS ?k_CS ?a_BS ?l_BS ?d_BS ?k_BS ?a_FP ?l_FP ?d_FP ?k_FP ?a_MP ?l_MP ?d_MP ?k_MP ?a_HW ?l_HW ?d_HW ?k_HW ?a_PS ?l_PS ?d_PS ?k_PS ?a_WR ?l_WR ?d_WR ?k_WR ?a_c0 ?l_c0 ?d_c0 ?k_c0 ?a_c1 ?l_c1 ?d_c1 ?k_c1 ?a_c2 ?l_c2 ?d_c2 ?k_c2 ?a_c3 ?l_c3 ?d_c3 ?k_c3 ?a_c4 ?l_c4 ?d_c4 ?k_c4 ?a_c5 ?l_c5 ?d_c5 ?k_c5 ?a_c6 ?l_c6 ?d_c6 ?k_c6 ?a_c7 ?l_c7 ?d_c7 ?k_c7 ?a_c8 ?l_c8 ?d_c8 ?k_c8 ?a_c9 ?l_c9 ?d_c9 ?k_c9 ?a_c10 ?l_c10 ?d_c10 ?k_c10 ?a_c11 ?l_c11 ?d_c11 ?k_c11 ?a_c12 ?l_c12 ?d_c12 ?k_c12 ?a_c13 ?l_c13 ?d_c13 ?k_c13 ?a_c14 ?l_c14 ?d_c14 ?k_c14 ?a_c15 ?l_c15 ?d_c15 ?k_c15 ?a_c16 ?l_c16 ?d_c16 ?k_c16 ?a_c17 ?l_c17 ?d_c17 ?k_c17 ?a_c18 ?l_c18 ?d_c18 ?k_c18 ?a_c19 ?l_c19 ?d_c19 ?k_c19 ?a_c20 ?l_c20 ?d_c20 ?k_c20 ?a_c21 ?l_c21 ?d_c21 ?k_c21 ?a_c22 ?l_c22 ?d_c22 ?k_c22 ?a_AC ?l_AC ?d_AC ?k_AC ?a_AN ?l_AN ?d_AN ?k_AN ?a_In ?i_In ?l_In ?d_In ?k_In ?a_Be ?i_Be ?l_Be ?d_Be ?k_Be ?a_WA ?i_WA ?l_WA ?d_WA ?k_WA ?a_CC ?i_CC ?l_CC ?d_CC ?k_CC ?a_PC ?i_PC ?l_PC ?d_PC ?k_PC ?pg ?hd ?po ?sa ?mk ?kc ?n_begun ?n_wanted ?n_pieces ?n_baskets ?z_len ?z_sum ?z_min ?z_max ?z_sorted ?z_range ?z_list ?z_enumerate ?g_noSuch ?g_noneThere ?g_notBegun ?g_tooLight ?g_outOf ?g_tooMany ?g_notEnough ?g_onTable ?g_cameMost ?g_pieceMost ?g_gramsMost ?g_mostNeeded ?g_begin0 ?gCalls ?lCalls ?eCalls ?gTold ?lTold ?eTold
    (case gC => k_is)
    (case a_WS => k_is)
    (case l_WS => k_is)
    (case d_WS => k_is)
    (case k_WS => k_is)
    (case a_CS => k_is)
    (case l_CS => k_is)
    (case d_CS => k_is)
    (case k_CS => k_is)
    (case a_BS => k_is)
    (case l_BS => k_is)
    (case d_BS => k_is)
    (case k_BS => k_is)
    (case a_FP => k_is)
    (case l_FP => k_is)
    (case d_FP => k_is)
    (case k_FP => k_is)
    (case a_MP => k_is)
    (case l_MP => k_is)
    (case d_MP => k_is)
    (case k_MP => k_is)
    (case a_HW => k_is)
    (case l_HW => k_is)
    (case d_HW => k_is)
    (case k_HW => k_is)
    (case a_PS => k_is)
    (case l_PS => k_is)
    (case d_PS => k_is)
    (case k_PS => k_is)
    (case a_WR => k_is)
    (case l_WR => k_is)
    (case d_WR => k_is)
    (case k_WR => k_is)
    (case a_c0 => k_is)
    (case l_c0 => k_is)
    (case d_c0 => k_is)
    (case k_c0 => k_is)
    (case a_c1 => k_is)
    (case l_c1 => k_is)
    (case d_c1 => k_is)
    (case k_c1 => k_is)
    (case a_c2 => k_is)
    (case l_c2 => k_is)
    (case d_c2 => k_is)
    (case k_c2 => k_is)
    (case a_c3 => k_is)
    (case l_c3 => k_is)
    (case d_c3 => k_is)
    (case k_c3 => k_is)
    (case a_c4 => k_is)
    (case l_c4 => k_is)
    (case d_c4 => k_is)
    (case k_c4 => k_is)
    (case a_c5 => k_is)
    (case l_c5 => k_is)
    (case d_c5 => k_is)
    (case k_c5 => k_is)
    (case a_c6 => k_is)
    (case l_c6 => k_is)
    (case d_c6 => k_is)
    (case k_c6 => k_is)
    (case a_c7 => k_is)
    (case l_c7 => k_is)
    (case d_c7 => k_is)
    (case k_c7 => k_is)
    (case a_c8 => k_is)
    (case l_c8 => k_is)
    (case d_c8 => k_is)
    (case k_c8 => k_is)
    (case a_c9 => k_is)
    (case l_c9 => k_is)
    (case d_c9 => k_is)
    (case k_c9 => k_is)
    (case a_c10 => k_is)
    (case l_c10 => k_is)
    (case d_c10 => k_is)
    (case k_c10 => k_is)
    (case a_c11 => k_is)
    (case l_c11 => k_is)
    (case d_c11 => k_is)
    (case k_c11 => k_is)
    (case a_c12 => k_is)
    (case l_c12 => k_is)
    (case d_c12 => k_is)
    (case k_c12 => k_is)
    (case a_c13 => k_is)
    (case l_c13 => k_is)
    (case d_c13 => k_is)
    (case k_c13 => k_is)
    (case a_c14 => k_is)
    (case l_c14 => k_is)
    (case d_c14 => k_is)
    (case k_c14 => k_is)
    (case a_c15 => k_is)
    (case l_c15 => k_is)
    (case d_c15 => k_is)
    (case k_c15 => k_is)
    (case a_c16 => k_is)
    (case l_c16 => k_is)
    (case d_c16 => k_is)
    (case k_c16 => k_is)
    (case a_c17 => k_is)
    (case l_c17 => k_is)
    (case d_c17 => k_is)
    (case k_c17 => k_is)
    (case a_c18 => k_is)
    (case l_c18 => k_is)
    (case d_c18 => k_is)
    (case k_c18 => k_is)
    (case a_c19 => k_is)
    (case l_c19 => k_is)
    (case d_c19 => k_is)
    (case k_c19 => k_is)
    (case a_c20 => k_is)
    (case l_c20 => k_is)
    (case d_c20 => k_is)
    (case k_c20 => k_is)
    (case a_c21 => k_is)
    (case l_c21 => k_is)
    (case d_c21 => k_is)
    (case k_c21 => k_is)
    (case a_c22 => k_is)
    (case l_c22 => k_is)
    (case d_c22 => k_is)
    (case k_c22 => k_is)
    (case a_AC => k_is)
    (case l_AC => k_is)
    (case d_AC => k_is)
    (case k_AC => k_is)
    (case a_AN => k_is)
    (case l_AN => k_is)
    (case d_AN => k_is)
    (case k_AN => k_is)
    (case a_In => k_is)
    (case i_In => k_is)
    (case l_In => k_is)
    (case d_In => k_is)
    (case k_In => k_is)
    (case a_Be => k_is)
    (case i_Be => k_is)
    (case l_Be => k_is)
    (case d_Be => k_is)
    (case k_Be => k_is)
    (case a_WA => k_is)
    (case i_WA => k_is)
    (case l_WA => k_is)
    (case d_WA => k_is)
    (case k_WA => k_is)
    (case a_CC => k_is)
    (case i_CC => k_is)
    (case l_CC => k_is)
    (case d_CC => k_is)
    (case k_CC => k_is)
    (case a_PC => k_is)
    (case i_PC => k_is)
    (case l_PC => k_is)
    (case d_PC => k_is)
    (case k_PC => k_is)
    (case pg => k_is)
    (case hd => k_is)
    (case po => k_is)
    (case sa => k_is)
    (case mk => k_is)
    (case kc => k_is)
    (case n_begun => k_is)
    (case n_wanted => k_is)
    (case n_pieces => k_is)
    (case n_baskets => k_is)
    (case z_len => k_is)
    (case z_sum => k_is)
    (case z_min => k_is)
    (case z_max => k_is)
    (case z_sorted => k_is)
    (case z_range => k_is)
    (case z_list => k_is)
    (case z_enumerate => k_is)
    (case g_noSuch => k_is)
    (case g_noneThere => k_is)
    (case g_notBegun => k_is)
    (case g_tooLight => k_is)
    (case g_outOf => k_is)
    (case g_tooMany => k_is)
    (case g_notEnough => k_is)
    (case g_onTable => k_is)
    (case g_cameMost => k_is)
    (case g_pieceMost => k_is)
    (case g_gramsMost => k_is)
    (case g_mostNeeded => k_is)
    (case g_begin0 => k_is)
    (case gCalls => k_is)
    (case lCalls => k_is)
    (case eCalls => rfl)
    (case gTold => k_is)
    (case lTold => k_is)
    (case eTold => rfl)
  case S =>
    intro K H xs a hO hwi hask hx
    cases hx with
    | cons h1 h2 =>
      cases h2
      cases h1 with
      | lst hs ha =>
        have e := L2.ints_dw a.1 _ ha
        subst e
        have q : ((Codec.inLen 0 800 a.1 && a.1.all (Codec.inInt 0 4294967295)) && true) = true := hwi
        rw [Bool.and_eq_true, Bool.and_eq_true] at q
        refine ⟨_, a.1, rfl, hs, (Codec.inNat_iff.mp q.1.1).2, fun x hx => ?_, hask, fun H' p hp => .lst (L2.SqL.of hp) (L2.dw_ints _)⟩
        have hz := List.all_eq_true.mp q.1.2 x hx
        exact (Codec.inInt_iff.mp hz).1
