import PyProof.Rows.All
import Wide.All
import OpenK.AllK
import Wide.FinOn
import Lean
import PyProof.EqAt
import PyProof.EqKinds
import PyProof.TupleCall
import PyProof.Rows.SortShell
import PyProof.Dict
import PyProof.Rows.IntRules
import PyProof.WalkInts
import PyProof.NeKinds
import PyProof.AttrMissHeap
import PySem.Challenge.RW_ringdeal_k08_plain_story
-- CHANGE: your row's module here, as the last of these rows
set_option Elab.async false
set_option linter.all false
set_option maxRecDepth 100000
/-! THE HAND LAYER, for ints, bools, texts, own classes, LISTS and tuples (index, slices, in, append, pop ..), calls, loops. Paste it whole ahead of your own text; what your proof does not reach may be deleted. -/
namespace L2
open PySem PySem.Spec PyProof.Rows
/-- a key: an int or a str -/
abbrev Key := Sum Int Str
def keyIs : Key → Value → Bool
  | .inl k, v => Value.isInt k v
  | .inr x, v => Value.isStrOf x v
def keyH (w : World) : Key → Int
  | .inl k => hashInt k
  | .inr x => hashStr w x
theorem keyIs_shape : ∀ {k : Key} {v : Value}, keyIs k v = true → (∃ i t, k = Sum.inl i ∧ v = Value.int i t) ∨ (∃ x t, k = Sum.inr x ∧ v = Value.str x t)
  | .inl i, v, h => by
    obtain ⟨t, e⟩ := Value.isInt_shape (k := i) (v := v) h
    exact .inl ⟨i, t, rfl, e⟩
  | .inr x, v, h => by
    obtain ⟨t, e⟩ := Value.isStrOf_shape (x := x) (v := v) h
    exact .inr ⟨x, t, rfl, e⟩
theorem keyIs_int (i : Int) (t : Tok) : keyIs (.inl i) (.int i t) = true := by simp [keyIs, Value.isInt]
theorem keyIs_str (x : Str) (t : Tok) : keyIs (.inr x) (.str x t) = true := by simp [keyIs, Value.isStrOf]
theorem key_ll (a b : Int) : decide ((Sum.inl a : Key) = Sum.inl b) = (a == b) := by
  by_cases e : a = b
  · subst e; simp
  · have h : ¬ (Sum.inl a : Key) = Sum.inl b := fun q => e (Sum.inl.inj q)
    rw [decide_eq_false h]
    exact (beq_eq_false_iff_ne.mpr e).symm
theorem key_rr (a b : Str) : decide ((Sum.inr a : Key) = Sum.inr b) = decide (a = b) := by
  by_cases e : a = b
  · subst e; simp
  · have h : ¬ (Sum.inr a : Key) = Sum.inr b := fun q => e (Sum.inr.inj q)
    rw [decide_eq_false h, decide_eq_false e]
theorem key_lr (a : Int) (b : Str) : decide ((Sum.inl a : Key) = Sum.inr b) = false := decide_eq_false (fun q => nomatch q)
theorem key_rl (a : Str) (b : Int) : decide ((Sum.inr a : Key) = Sum.inl b) = false := decide_eq_false (fun q => nomatch q)
def mixKind (prog : Program) (w : World) : PySem.KeyKind prog w Key where
  is := keyIs
  hash := keyH w
  inj := fun v a b ha hb => by
    rcases keyIs_shape ha with ⟨i, t, rfl, rfl⟩ | ⟨x, t, rfl, rfl⟩
    · rcases keyIs_shape hb with ⟨j, u, rfl, e⟩ | ⟨y, u, rfl, e⟩
      · injection e with e1 _; rw [e1]
      · exact nomatch e
    · rcases keyIs_shape hb with ⟨j, u, rfl, e⟩ | ⟨y, u, rfl, e⟩
      · exact nomatch e
      · injection e with e1 _; rw [e1]
  byValue := fun k v h => by
    rcases keyIs_shape h with ⟨i, t, rfl, rfl⟩ | ⟨x, t, rfl, rfl⟩ <;> rfl
  pyHash := fun hv h => by
    rcases keyIs_shape hv with ⟨i, t, rfl, rfl⟩ | ⟨x, t, rfl, rfl⟩
    · exact wpAny_pyHash_int h
    · exact wpAny_pyHash_str h
  eqBool := fun hu hv h => by
    rcases keyIs_shape hu with ⟨i, t, rfl, rfl⟩ | ⟨x, t, rfl, rfl⟩
    · rcases keyIs_shape hv with ⟨j, u, rfl, rfl⟩ | ⟨y, u, rfl, rfl⟩
      · rw [key_ll] at h; exact wpAny_eqBool_int h
      · rw [key_lr] at h; exact SeqAt.EqAt.int_str i t y u _ _ _ _ h
    · rcases keyIs_shape hv with ⟨j, u, rfl, rfl⟩ | ⟨y, u, rfl, rfl⟩
      · rw [key_rl] at h; exact SeqAt.EqAt.str_int x t j u _ _ _ _ h
      · rw [key_rr] at h; exact wpAny_eqBool_str h
  «strs» := fun k x t v h => by
    rcases keyIs_shape h with ⟨i, u, rfl, e⟩ | ⟨y, u, rfl, e⟩
    · exact nomatch e
    · injection e with e1 _
      subst e1
      cases v <;> rfl
theorem mixKind_int (prog : Program) (w : World) (i : Int) (t : Tok) : (mixKind prog w).is (.inl i) (.int i t) = true := keyIs_int i t
theorem mixKind_str (prog : Program) (w : World) (x : Str) (t : Tok) : (mixKind prog w).is (.inr x) (.str x t) = true := keyIs_str x t
end L2
namespace L2
open PySem PySem.Spec PyProof.Rows
/-- a value, without the heap -/
inductive V where
  | non | bl (b : Bool) | int (i : Int) | str (x : Str) | byt (b : Array UInt8) | flt (b : UInt64) | ref (a : Addr) | ty (n : String)
  deriving DecidableEq
def RelV : V → Value → Prop
  | .non, u => u = Value.none
  | .bl b, u => u = Value.bool b
  | .int i, u => ∃ t, u = Value.int i t
  | .str x, u => ∃ t, u = Value.str x t
  | .byt b, u => ∃ t, u = Value.bytes b t
  | .flt b, u => ∃ t, u = Value.float b t
  | .ref a, u => u = Value.ref a
  | .ty n, u => u = Value.type n
abbrev Vals : List V → List Value → Prop := Paired RelV
theorem Vals.length {xs : List V} {us : List Value} (r : Vals xs us) : xs.length = us.length := Paired.length r
theorem Vals.get : ∀ {xs : List V} {us : List Value} {i : Nat} {x : V}, Vals xs us → xs[i]? = some x → ∃ u, us[i]? = some u ∧ RelV x u
  | _, _, _, _, .nil, e => by simp at e
  | _, _, 0, _, .cons r _, e => by simp at e; subst e; exact ⟨_, rfl, r⟩
  | _, _, i + 1, x, .cons _ t, e => by
    obtain ⟨u, h1, h2⟩ := Vals.get (i := i) (x := x) t (by simpa using e)
    exact ⟨u, by simpa using h1, h2⟩
theorem Vals.set {x : V} {u : Value} (r : RelV x u) : ∀ {xs : List V} {us : List Value} (i : Nat), Vals xs us → Vals (xs.set i x) (us.set i u)
  | _, _, _, .nil => .nil
  | _, _, 0, .cons _ t => .cons r t
  | _, _, i + 1, .cons q t => .cons q (Vals.set r i t)
theorem Vals.append : ∀ {xs ys : List V} {us ws : List Value}, Vals xs us → Vals ys ws → Vals (xs ++ ys) (us ++ ws)
  | _, _, _, _, .nil, s => s
  | _, _, _, _, .cons r t, s => .cons r (Vals.append t s)
theorem Vals.take : ∀ {xs : List V} {us : List Value} (n : Nat), Vals xs us → Vals (xs.take n) (us.take n)
  | _, _, 0, _ => .nil
  | _, _, _ + 1, .nil => .nil
  | _, _, n + 1, .cons r t => .cons r (Vals.take n t)
theorem Vals.drop : ∀ {xs : List V} {us : List Value} (n : Nat), Vals xs us → Vals (xs.drop n) (us.drop n)
  | _, _, 0, r => r
  | _, _, _ + 1, .nil => .nil
  | _, _, n + 1, .cons _ t => Vals.drop n t
def RelO : Option V → Option Value → Prop
  | some v, some u => RelV v u
  | none, none => True
  | _, _ => False
def KV {κ : Type} : List (κ × V) → List (κ × Value) → Prop := Paired fun (p : κ × V) (q : κ × Value) => p.1 = q.1 ∧ RelV p.2 q.2
/-- a key of a dict (00_mix): an int or a text -/
def kV : Key → V
  | .inl i => .int i
  | .inr x => .str x
/-- what stands at a tracked address -/
inductive HO where
  /-- a list -/
  | lst (xs : List V)
  /-- a tuple (never changes) -/
  | tup (xs : List V)
  /-- a dict whose keys are ints and texts; one whose keys are tuples of ints and texts (the empty one is both) -/
  | dK (kvs : List (Key × V)) | dT (kvs : List (List Key × V))
  /-- a set of ints: its members, its size -/
  | set (S : Int → Bool) (n : Nat)
  /-- an instance of the class at C, its dict at dx, its attributes -/
  | ins (C dx : Addr) (fs : List (Str × V))
  /-- the dict of the instance at x -/
  | own (x : Addr)
  /-- the dict of an exception -/
  | xd (fs : List (Str × V))
  /-- a bound method, f of x -/
  | met (f x : Addr)
  /-- a range object lo, lo + 1, .. below hi -/
  | rng (lo hi : Int)
  /-- a thing that is known to the object (the script; a dict while a loop walks it): read, never written while it is so -/
  | frz (o : Obj) (u : HO)
  /-- a code object's table -/
  | tbl (ps : Array Value)
  /-- any other thing, by what is true of its one object (a def of one's own: SetO a S n := HO.ext fun h => ..) -/
  | ext (φ : Heap → Prop)
abbrev Hp := Addr → Option HO
def upd (H : Hp) (a : Addr) (o : HO) : Hp := fun b => if b = a then some o else H b
theorem upd_same {H : Hp} {a : Addr} {o : HO} : upd H a o a = some o := by unfold upd; rw [if_pos rfl]
theorem upd_ne {H : Hp} {a b : Addr} {o : HO} (h : b ≠ a) : upd H a o b = H b := by unfold upd; rw [if_neg h]
theorem upd_upd {H : Hp} {a : Addr} {o u : HO} : upd (upd H a o) a u = upd H a u := by
  funext b; unfold upd; split <;> rfl
/-- two objects of different content stand apart -/
theorem ne_of {H : Hp} {a b : Addr} {o u : HO} (h : H a = some o) (h' : H b = some u) (d : o ≠ u) : a ≠ b := by
  intro e; subst e; rw [h] at h'; exact d (Option.some.inj h')
theorem ne_of_none {H : Hp} {a b : Addr} {o : HO} (h : H a = some o) (h' : H b = none) : a ≠ b := by
  intro e; subst e; rw [h] at h'; cases h'
section
variable (P : Program) (w : World)
def ObjOk (H : Hp) (h : Heap) (a : Addr) : HO → Prop
  | .lst xs => xs.length ≤ sizeLine ∧ ∃ (its : List Value) (n : Nat), Vals xs its ∧ h.get? a = some { cls := .type "list", data := .seq its.toArray n }
  | .tup xs => xs.length ≤ sizeLine ∧ ∃ its : List Value, Vals xs its ∧ IsTup h a its.toArray
  | .dK kvs => kvs.length ≤ sizeLine ∧ (a == sysModules) = false ∧ ∃ vs, KV kvs vs ∧ h.DictOf (mixKind P w) a vs
  | .dT kvs => kvs.length ≤ sizeLine ∧ (a == sysModules) = false ∧ ∃ xs : List (List Key × Addr × Value),
      Paired (fun (p : List Key × V) (q : List Key × Addr × Value) => p.1 = q.1 ∧ H q.2.1 = some (.tup (p.1.map kV)) ∧ RelV p.2 q.2.2) kvs xs ∧
      ∃ o es ep, h.get? a = some o ∧ o.ExactDict ∧ o.data = .dict es ep ∧ es.toList = xs.map (entryOfKey (tupleKind (mixKind P w))) ∧ (xs.map (·.1)).Nodup
  | .set S n => h.SetOf (intKind P w) a S n
  | .ins C dx fs => H dx = some (.own a) ∧ fs.length ≤ 1000 ∧ dx ≠ a ∧ h.get? a = some (PySem.W.instObj C dx) ∧
      ∃ mA, h.Ns1 dx mA ∧ (∀ f, RelO (fs.lookup f) (mA f)) ∧ PySem.Within mA (fs.map (·.1))
  | .own _ => ∃ o, h.get? a = some o
  | .xd fs => ∃ mA, h.Ns1 a mA ∧ ∀ f, RelO (fs.lookup f) (mA f)
  | .rng lo hi => ∃ t u v, h.get? a = some { cls := .type "range", data := .fields #[.int lo t, .int hi u, .int 1 v] }
  | .frz o u => h.get? a = some o ∧ ObjOk H h a u
  | .tbl ps => h.get? a = some { cls := .none, data := .fields ps }
  | .met f x => h.get? a = some (PySem.W.methodObj (.ref f) (.ref x))
  | .ext φ => φ h ∧ (∃ o, h.get? a = some o) ∧ ∀ h1 h2 : Heap, φ h1 → (∀ o, h1.get? a = some o → h2.get? a = some o) → φ h2
/-- the abstract heap is held -/
def HOk (H : Hp) (h : Heap) : Prop := ∀ a o, H a = some o → ObjOk P w H h a o
end
section
variable {P : Program} {w : World} {H H' : Hp} {h h' : Heap} {a : Addr} {o : HO}
theorem ObjOk.lt (x : ObjOk P w H h a o) : a < h.objs.size := by
  cases o with
  | lst xs => obtain ⟨_, _, _, _, e⟩ := x; exact Heap.lt_size e
  | tup xs => obtain ⟨_, _, _, p⟩ := x; exact p.lt
  | dK kvs => obtain ⟨_, _, _, _, o, _, _, e, _⟩ := x; exact Heap.lt_size e
  | dT kvs => obtain ⟨_, _, _, _, o, _, _, e, _⟩ := x; exact Heap.lt_size e
  | set S n => obtain ⟨o, _, _, _, e, _⟩ := x; exact Heap.lt_size e
  | ins C dx fs => obtain ⟨_, _, _, e, _⟩ := x; exact Heap.lt_size e
  | own y => obtain ⟨_, e⟩ := x; exact Heap.lt_size e
  | xd fs => obtain ⟨_, ⟨_, _, _, e, _⟩, _⟩ := x; exact Heap.lt_size e
  | rng lo hi => obtain ⟨_, _, _, e⟩ := x; exact Heap.lt_size e
  | frz ob u => obtain ⟨e, _⟩ := x; exact Heap.lt_size e
  | tbl ps => exact Heap.lt_size (show h.get? a = some _ from x)
  | met f y => exact Heap.lt_size (show h.get? a = some _ from x)
  | ext φ => obtain ⟨_, ⟨_, e⟩, _⟩ := x; exact Heap.lt_size e
theorem Paired.mapP {α β : Type} {F G : α → β → Prop} : ∀ {l₁ : List α} {l₂ : List β}, Paired F l₁ l₂ → (∀ a b, F a b → G a b) → Paired G l₁ l₂
  | _, _, .nil, _ => .nil
  | _, _, .cons r t, f => .cons (f _ _ r) (Paired.mapP t f)
/-- what an object's description leans on: its own object, its own dict, the tuples -/
theorem ObjOk.stay (x : ObjOk P w H h a o) (k : ∀ b u, (b = a ∨ H b = some (.own a)) → h.get? b = some u → h'.get? b = some u)
    (ho : ∀ b, H b = some (.own a) → H' b = some (.own a)) (ht : ∀ b xs, H b = some (.tup xs) → H' b = some (.tup xs)) : ObjOk P w H' h' a o := by
  induction o with
  | lst xs => obtain ⟨z, its, n, r, e⟩ := x; exact ⟨z, its, n, r, k _ _ (.inl rfl) e⟩
  | tup xs => obtain ⟨z, its, r, ob, e, c⟩ := x; exact ⟨z, its, r, ob, k _ _ (.inl rfl) e, c⟩
  | dK kvs => obtain ⟨z, y, vs, r, ob, es, ep, e, c⟩ := x; exact ⟨z, y, vs, r, ob, es, ep, k _ _ (.inl rfl) e, c⟩
  | dT kvs =>
    obtain ⟨z, y, xs, r, ob, es, ep, e, c⟩ := x
    exact ⟨z, y, xs, Paired.mapP r fun p q z => ⟨z.1, ht _ _ z.2.1, z.2.2⟩, ob, es, ep, k _ _ (.inl rfl) e, c⟩
  | set S n => obtain ⟨ob, es, ep, t, e, c⟩ := x; exact ⟨ob, es, ep, t, k _ _ (.inl rfl) e, c⟩
  | ins C dx fs =>
    obtain ⟨d, z, ne, e, mA, ⟨od, es, ep, e2, c⟩, r⟩ := x
    exact ⟨ho _ d, z, ne, k _ _ (.inl rfl) e, mA, ⟨od, es, ep, k _ _ (.inr d) e2, c⟩, r⟩
  | own y => obtain ⟨ob, e⟩ := x; exact ⟨ob, k _ _ (.inl rfl) e⟩
  | xd fs => obtain ⟨mA, ⟨od, es, ep, e, c⟩, r⟩ := x; exact ⟨mA, ⟨od, es, ep, k _ _ (.inl rfl) e, c⟩, r⟩
  | rng lo hi => obtain ⟨t, u, v, e⟩ := x; exact ⟨t, u, v, k _ _ (.inl rfl) e⟩
  | frz ob u ih => obtain ⟨e, q⟩ := x; exact ⟨k _ _ (.inl rfl) e, ih q⟩
  | tbl ps =>
    have e : h.get? a = some { cls := .none, data := .fields ps } := x
    show h'.get? a = some { cls := .none, data := .fields ps }
    exact k a _ (.inl rfl) e
  | met f y =>
    have e : h.get? a = some (PySem.W.methodObj (.ref f) (.ref y)) := x
    show h'.get? a = some (PySem.W.methodObj (.ref f) (.ref y))
    exact k a _ (.inl rfl) e
  | ext φ => obtain ⟨p, ⟨o, e⟩, st⟩ := x; exact ⟨st _ _ p fun o q => k _ _ (.inl rfl) q, ⟨o, k _ _ (.inl rfl) e⟩, st⟩
theorem HOk.lt (x : HOk P w H h) (e : H a = some o) : a < h.objs.size := (x a o e).lt
theorem HOk.fresh (x : HOk P w H h) (e : h.objs.size ≤ a) : H a = none := by
  cases q : H a with
  | none => rfl
  | some u => exact absurd (Nat.lt_of_lt_of_le (x.lt q) e) (Nat.lt_irrefl _)
/-- every object of the heap is kept -/
theorem HOk.kept (x : HOk P w H h) (k : ∀ b u, h.get? b = some u → h'.get? b = some u) : HOk P w H h' := fun a o e =>
  (x a o e).stay (fun b u _ q => k b u q) (fun _ q => q) fun _ _ q => q
/-- a new object is laid and tracked -/
theorem HOk.laid (x : HOk P w H h) (k : ∀ b u, h.get? b = some u → h'.get? b = some u) (hp : h.objs.size ≤ a) (new : ObjOk P w (upd H a o) h' a o) : HOk P w (upd H a o) h' := fun b u e => by
  have hn := x.fresh hp
  by_cases hb : b = a
  · subst hb; rw [upd_same] at e; cases e; exact new
  · rw [upd_ne hb] at e
    exact (x b u e).stay (fun c v _ q => k c v q) (fun c q => by rw [upd_ne (ne_of_none q hn)]; exact q) fun c xs q => by rw [upd_ne (ne_of_none q hn)]; exact q
end
/-- what may be read as u: it is u, or a known u -/
def Rd (H : Hp) (a : Addr) (u : HO) : Prop := H a = some u ∨ ∃ o, H a = some (.frz o u)
theorem Rd.ok {P : Program} {w : World} {H : Hp} {h : Heap} {a : Addr} {u : HO} (r : Rd H a u) (x : HOk P w H h) : ObjOk P w H h a u := by
  rcases r with r | ⟨o, r⟩
  · exact x a u r
  · obtain ⟨_, q⟩ := x a _ r
    exact q
/-- what may be written -/
def Mut : Option HO → Prop
  | some (.lst _) => True
  | some (.dK _) => True
  | some (.dT _) => True
  | some (.set _ _) => True
  | some (.ins _ _ _) => True
  | some (.ext _) => True
  | _ => False
section
variable {P : Program} {w : World} {H : Hp} {h h' : Heap} {x e : Addr} {o' : HO}
/-- the object at e is changed: x itself, or the dict of the instance x -/
theorem HOk.write (ok : HOk P w H h) (mu : Mut (H x)) (he : e = x ∨ H e = some (.own x)) (k : ∀ b u, b ≠ e → h.get? b = some u → h'.get? b = some u) (heo : ∃ u, h'.get? e = some u)
    (new : ObjOk P w (upd H x o') h' x o') : HOk P w (upd H x o') h' := fun b u q => by
  have nown : ∀ c y, H c = some (.own y) → c ≠ x := fun c y r z => by subst z; rw [r] at mu; exact mu
  have ntup : ∀ c xs, H c = some (.tup xs) → c ≠ x := fun c xs r z => by subst z; rw [r] at mu; exact mu
  by_cases hb : b = x
  · subst hb; rw [upd_same] at q; cases q; exact new
  · rw [upd_ne hb] at q
    by_cases hbe : b = e
    · have q' : H b = some (.own x) := by
        rcases he with z | z
        · exact absurd (hbe.trans z) hb
        · rw [hbe]; exact z
      rw [q] at q'; cases q'
      obtain ⟨v, hv⟩ := heo
      exact ⟨v, by rw [hbe]; exact hv⟩
    · refine (ok b u q).stay (fun c v hc r => k c v ?_ r) (fun c r => by rw [upd_ne (nown c b r)]; exact r) fun c xs r => by rw [upd_ne (ntup c xs r)]; exact r
      rcases hc with rfl | hc
      · exact hbe
      · rintro rfl
        rcases he with z | z
        · exact nown c b hc z
        · rw [hc] at z; cases z; exact hb rfl
end
/-! ### kept unless tracked; of the frames at fs (the callers') the slots may change (an exception that passes writes there); of the records at ex (iterators) nothing is said -/
structure Un (fs ex : List Addr) (H H' : Hp) (h h' : Heap) : Prop where
  keep : ∀ b o, h.get? b = some o → H b = none → b ∉ fs → b ∉ ex → h'.get? b = some o
  slot : ∀ b o, h.get? b = some o → H b = none → b ∈ fs → b ∉ ex → ∃ sl, h'.get? b = some { o with slots := sl }
  free : ∀ b o, h.get? b = some o → H b = none → b ∉ ex → H' b = none
  there : ∀ b o, h.get? b = some o → b ∉ ex → ∃ o', h'.get? b = some o'
  tups : ∀ b xs, H b = some (.tup xs) → H' b = some (.tup xs)
  frzs : ∀ b o u, H b = some (.frz o u) → H' b = some (.frz o u)
  tbls : ∀ b ps, H b = some (.tbl ps) → ∃ more, H' b = some (.tbl (ps ++ more))
section
variable {fs fs' ex ex' : List Addr} {H H1 H2 : Hp} {h h1 h2 h' : Heap} {a x e : Addr} {o : HO}
theorem Un.any (u : Un fs ex H H1 h h1) {b : Addr} {ob : Obj} (q : h.get? b = some ob) (n : H b = none) (hx : b ∉ ex) : ∃ sl, h1.get? b = some { ob with slots := sl } := by
  by_cases hb : b ∈ fs
  · exact u.slot b ob q n hb hx
  · exact ⟨ob.slots, u.keep b ob q n hb hx⟩
theorem Un.kept (k : ∀ b u, h.get? b = some u → h'.get? b = some u) : Un fs ex H H h h' :=
  ⟨fun b ob q _ _ _ => k b ob q, fun b ob q _ _ _ => ⟨ob.slots, k b ob q⟩, fun _ _ _ n _ => n, fun b ob q _ => ⟨ob, k b ob q⟩, fun _ _ q => q, fun _ _ _ q => q, fun _ ps q => ⟨#[], by rw [q]; simp⟩⟩
theorem Un.refl : Un fs ex H H h h := Un.kept fun _ _ q => q
theorem Un.laid (k : ∀ b u, h.get? b = some u → h'.get? b = some u) (hp : h.objs.size ≤ a) (hn : H a = none) : Un fs ex H (upd H a o) h h' where
  keep := fun b u q _ _ _ => k b u q
  slot := fun b u q _ _ _ => ⟨u.slots, k b u q⟩
  free := fun b u q n _ => by rw [upd_ne (Nat.ne_of_lt (Nat.lt_of_lt_of_le (Heap.lt_size q) hp))]; exact n
  there := fun b u q _ => ⟨u, k b u q⟩
  tups := fun b xs q => by rw [upd_ne (ne_of_none q hn)]; exact q
  frzs := fun b u xs q => by rw [upd_ne (ne_of_none q hn)]; exact q
  tbls := fun b ps q => ⟨#[], by rw [upd_ne (ne_of_none q hn), q]; simp⟩
theorem Un.write (mu : Mut (H x)) (he : e = x ∨ H e = some (.own x)) (k : ∀ b u, b ≠ e → h.get? b = some u → h'.get? b = some u) (heo : ∃ u, h'.get? e = some u) : Un fs ex H (upd H x o) h h' := by
  have hx : ∀ b, H b = none → b ≠ x := fun b n z => by subst z; rw [n] at mu; exact mu
  have hb : ∀ b, H b = none → b ≠ e := fun b n z => by
    subst z
    rcases he with r | r
    · exact hx b n r
    · rw [n] at r; cases r
  have hm : ∀ b u, H b = some u → ¬ Mut (some u) → b ≠ x := fun b u q nm z => by subst z; rw [q] at mu; exact nm mu
  refine ⟨fun b u q n _ _ => k b u (hb b n) q, fun b u q n _ _ => ⟨u.slots, k b u (hb b n) q⟩, fun b u q n _ => by rw [upd_ne (hx b n)]; exact n, fun b u q _ => ?_,
    fun b xs q => by rw [upd_ne (hm b _ q fun z => z)]; exact q, fun b u xs q => by rw [upd_ne (hm b _ q fun z => z)]; exact q, fun b ps q => ⟨#[], by rw [upd_ne (hm b _ q fun z => z), q]; simp⟩⟩
  by_cases hbe : b = e
  · subst hbe; exact heo
  · exact ⟨u, k b u hbe q⟩
end
/-! ### the heap without what is tracked -/
def trk (h : Heap) (H : Hp) : List Addr := (List.range h.objs.size).filter fun a => (H a).isSome
def hidT (h : Heap) (H : Hp) : Heap := PySem.W.hideAll h (trk h H)
theorem hidT_size (h : Heap) (H : Hp) : (hidT h H).objs.size = h.objs.size := PySem.W.hideAll_size _ _
theorem hidT_get {h : Heap} {H : Hp} {b : Addr} {o : Obj} (e : h.get? b = some o) (n : H b = none) : (hidT h H).get? b = some o :=
  PySem.W.hideAll_get _ e fun hm => by
    have q : (H b).isSome = true := (List.mem_filter.mp hm).2
    rw [n] at q; simp at q
theorem of_hidT {h : Heap} {H : Hp} {b : Addr} {o : Obj} (e : (hidT h H).get? b = some o) : h.get? b = some o ∧ H b = none := by
  have e' : h.get? b = some o := PySem.W.of_hideAll (trk h H) e
  refine ⟨e', ?_⟩
  cases q : H b with
  | none => rfl
  | some x =>
    have hm : b ∈ trk h H := List.mem_filter.mpr ⟨List.mem_range.mpr (Heap.lt_size e'), by simp [q]⟩
    have z : (hidT h H).get? b = none := PySem.W.hideAll_none (trk h H) hm
    rw [z] at e; cases e
/-! ### OpenK's ledger, filled with every new object but one -/
end L2
namespace L2
open PySem PySem.Spec PyProof.Rows
/-- the module's facts, over the base: the heap at the law's entry without what is tracked there -/
structure Mod (K : PySem.W.Frag) (mg : Str → Option Value) (base : Heap) : Prop where
  kin : K.In base
  glob : base.Ns mainGlobals mg
  blt : ∃ mb, base.Ns builtinsNs mb ∧ ∀ x : Str, x ≠ "__name__" → mb x = bootBuiltins x
  nolimit : base.NoLimit
/-- the context: a def's body (or a comprehension's block) running. base: fixed through the whole law; s₀, H₀: the entry; outer: the frames whose slots others may change (a def's callers); stack: all frames that run;
   ex: iterators that were made ahead of the entry and are walked here (a comprehension's); fn: the names whose cells were made at the entry (a def: all; a comprehension's block: its own); calm: not within an except suite; pn: pins that every state bears; xe: what is wanted of an exception that leaves the code -/
structure Cx where
  prog : Program
  w : World
  K : PySem.W.Frag
  mg : Str → Option Value
  base : Heap
  A : Around
  N : List Str
  s₀ : Shared
  H₀ : Hp
  env : Env
  outer : List Env
  stack : List Env
  ex : List Addr
  fn : Str → Bool
  calm : Bool
  pn : List (Addr × Obj)
  xe : Value → Shared → Prop
/-- the callers' frames -/
def frs (l : List Env) : List Addr := l.filterMap (·.frame)
abbrev Cx.fs (X : Cx) : List Addr := frs X.outer
def Vis (sc : Scope) (x : Str) : Prop := sc.names.lookup x = some .local ∨ sc.names.lookup x = some .cell ∨ sc.names.lookup x = some .free
def Loc (sc : Scope) (x : Str) : Prop := sc.names.lookup x = some .local ∨ sc.names.lookup x = some .cell
def Look (env : Env) (h : Heap) (m : Str → Option Value) (x : Str) (u : Value) : Prop :=
  (env.kindOf x = some .local ∧ m x = some u) ∨ ((env.kindOf x = some .cell ∨ env.kindOf x = some .free) ∧ ∃ c, env.cells.lookup x = some c ∧ h.IsCell c (some u))
structure Cx.Ok (X : Cx) : Prop where
  mod : Mod X.K X.mg X.base
  kind : X.env.scope.kind = .function
  glob : X.env.globals = mainGlobals
  blt : X.env.builtins = builtinsNs
  above : X.s₀.heap.objs.size ≤ X.env.locals
  inj : ∀ x y c, X.env.cells.lookup x = some c → X.env.cells.lookup y = some c → x = y
  has : ∀ x, (X.env.kindOf x = some .cell ∨ X.env.kindOf x = some .free) → ∃ c, X.env.cells.lookup x = some c
  cab : ∀ x c, X.fn x = true → X.env.cells.lookup x = some c → X.s₀.heap.objs.size ≤ c
  hd : X.calm = true → X.A.handled = none
  frames : X.A.frames = some X.stack
  stk : X.stack = X.outer ∨ (X.stack = X.env :: X.outer ∧ X.env.frame = some X.env.locals)
  exf : ∀ b ∈ X.ex, b ≠ X.env.locals ∧ ∀ x c, X.env.cells.lookup x = some c → c ≠ b
  bs : ∀ b o, X.base.get? b = some o → X.s₀.heap.get? b = some o ∧ X.H₀ b = none
  bsz : X.base.objs.size ≤ X.s₀.heap.objs.size
  noex : ∀ b o, X.base.get? b = some o → b ∉ X.ex
  exfs : ∀ b ∈ X.ex, b ∉ X.fs
  funs : X.s₀.heap.FunFrames X.base X.outer
  frf : ∀ b ∈ X.fs, X.H₀ b = none
structure Inv (X : Cx) (pins : List (Addr × Obj)) (σ : List (Option V)) (H : Hp) (s : Shared) : Prop where
  ok : X.Ok
  os : s.os = X.s₀.os
  bare : AllBare s.gens
  base : Un X.fs X.ex X.H₀ H X.s₀.heap s.heap
  loc : ∃ m, s.heap.Ns X.env.locals m ∧ ∀ (i : Nat) (x : Str) (v : V), X.N[i]? = some x → σ[i]? = some (some v) → Vis X.env.scope x → ∃ u, RelV v u ∧ Look X.env s.heap m x u
  cell : ∀ x c, X.env.cells.lookup x = some c → ∃ v, s.heap.IsCell c v
  free : H X.env.locals = none
  freeC : ∀ x c, X.env.cells.lookup x = some c → H c = none
  pin : ∀ p ∈ X.pn ++ pins, s.heap.get? p.1 = some p.2 ∧ H p.1 = none ∧ p.1 ≠ X.env.locals ∧ p.1 ∉ X.fs ∧ ∀ v, p.2.data ≠ .cell v
  hok : HOk X.prog X.w H s.heap
  len : σ.length = X.N.length
section
variable {X : Cx} {pins : List (Addr × Obj)} {σ : List (Option V)} {H H' : Hp} {s : Shared} {h' : Heap}
theorem Cx.Ok.nofr (ok : X.Ok) {b : Addr} {o : Obj} (e : X.base.get? b = some o) : b ∉ X.fs := fun hb => by
  have := (ok.funs.mem hb).1
  rw [e] at this; cases this
theorem Inv.bs (I : Inv X pins σ H s) : ∀ b o, X.base.get? b = some o → s.heap.get? b = some o ∧ H b = none := fun b o e =>
  ⟨I.base.keep b o (I.ok.bs b o e).1 (I.ok.bs b o e).2 (I.ok.nofr e) (I.ok.noex b o e), I.base.free b o (I.ok.bs b o e).1 (I.ok.bs b o e).2 (I.ok.noex b o e)⟩
theorem Inv.bk (I : Inv X pins σ H s) : ∀ b o, X.base.get? b = some o → s.heap.get? b = some o := fun b o e => (I.bs b o e).1
theorem Inv.mod (I : Inv X pins σ H s) : Mod X.K X.mg X.base := I.ok.mod
theorem Inv.kIn (I : Inv X pins σ H s) : X.K.In s.heap := I.ok.mod.kin.keeps I.bk
theorem Inv.lt (I : Inv X pins σ H s) : X.env.locals < s.heap.objs.size := let ⟨_, hn, _⟩ := I.loc; hn.lt
theorem Inv.sz (I : Inv X pins σ H s) : X.s₀.heap.objs.size ≤ s.heap.objs.size := Nat.le_trans I.ok.above (Nat.le_of_lt I.lt)
theorem Inv.nofs (I : Inv X pins σ H s) {a : Addr} (h : s.heap.objs.size ≤ a) : a ∉ X.fs := fun hb => by
  obtain ⟨_, o, ho, _⟩ := I.ok.funs.mem hb
  exact absurd (Nat.lt_of_lt_of_le (Heap.lt_size ho) (Nat.le_trans I.sz h)) (Nat.lt_irrefl _)
theorem Inv.cne (I : Inv X pins σ H s) : ∀ x c, X.env.cells.lookup x = some c → c ≠ X.env.locals := fun x c e z => by
  obtain ⟨v, o, ho, hd⟩ := I.cell x c e
  obtain ⟨m, ⟨o', es, ep, ho', hd', _⟩, _⟩ := I.loc
  rw [z, ho'] at ho; cases ho; rw [hd'] at hd; cases hd
theorem Inv.funs (I : Inv X pins σ H s) : s.heap.FunFrames X.base X.outer := by
  have all : ∀ (l : List Env), (∀ b ∈ frs l, b ∈ X.fs) → X.s₀.heap.FunFrames X.base l → s.heap.FunFrames X.base l := by
    intro l
    induction l with
    | nil => intro _ _; trivial
    | cons env r ih =>
      intro hs hl
      obtain ⟨hk, ⟨L, o, hf, hn, ho, hd⟩, hr⟩ := hl
      have hL : L ∈ X.fs := hs L (by unfold frs; rw [List.filterMap_cons, hf]; exact List.mem_cons_self)
      obtain ⟨sl, e⟩ := I.base.slot L o ho (I.ok.frf L hL) hL fun z => I.ok.exfs L z hL
      exact ⟨hk, ⟨L, _, hf, hn, e, hd⟩, ih (fun b hb => hs b (by unfold frs; rw [List.filterMap_cons, hf]; exact List.mem_cons_of_mem _ hb)) hr⟩
  exact all X.outer (fun _ hb => hb) I.ok.funs
/-- the frames that run, for a call -/
theorem Inv.stack (I : Inv X pins σ H s) : s.heap.FunFrames X.base X.stack := by
  rcases I.ok.stk with e | ⟨e, hf⟩
  · rw [e]; exact I.funs
  · rw [e]
    obtain ⟨m, hn, _⟩ := I.loc
    refine .cons (by rw [I.ok.kind]; decide) hf hn ?_ I.funs
    exact Heap.get?_none_of_le (Nat.le_trans I.ok.bsz I.ok.above)
theorem Inv.stkSub (I : Inv X pins σ H s) : ∀ b ∈ frs X.stack, b ∈ X.env.locals :: X.fs := fun b hb => by
  rcases I.ok.stk with e | ⟨e, hf⟩
  · rw [e] at hb; exact List.mem_cons_of_mem _ hb
  · rw [e] at hb
    unfold frs at hb
    rw [List.filterMap_cons, hf] at hb
    exact hb
theorem Inv.stkFree (I : Inv X pins σ H s) : ∀ b ∈ frs X.stack, H b = none := fun b hb => by
  rcases List.mem_cons.mp (I.stkSub b hb) with e | hb
  · rw [e]; exact I.free
  · obtain ⟨_, o, ho, _⟩ := I.ok.funs.mem hb
    exact I.base.free b o ho (I.ok.frf b hb) fun z => I.ok.exfs b z hb
/-- THE STEP: the untracked objects but the frame and the records at ch are kept (the callers' frames up to slots), the frame's map is kept, the new abstract heap is held -/
theorem Inv.step {g' : Array GenState} {t' : Nat} {d' : Drawn} {ch : List Addr} (I : Inv X pins σ H s)
    (hch : ∀ b ∈ ch, (b ∈ X.ex ∨ X.s₀.heap.objs.size ≤ b) ∧ b ≠ X.env.locals ∧ (∀ x c, X.env.cells.lookup x = some c → c ≠ b) ∧ ∀ p ∈ X.pn ++ pins, p.1 ≠ b)
    (keep : ∀ b o, b ≠ X.env.locals → b ∉ X.fs → b ∉ ch → s.heap.get? b = some o → H b = none → h'.get? b = some o)
    (slot : ∀ b o, b ≠ X.env.locals → b ∈ X.fs → b ∉ ch → s.heap.get? b = some o → H b = none → ∃ sl, h'.get? b = some { o with slots := sl }) (free : ∀ b o, b ∉ ch → s.heap.get? b = some o → H b = none → H' b = none)
    (there : ∀ b o, b ∉ ch → s.heap.get? b = some o → ∃ o', h'.get? b = some o')
    (tups : ∀ b xs, H b = some (.tup xs) → H' b = some (.tup xs)) (frzs : ∀ b o u, H b = some (.frz o u) → H' b = some (.frz o u)) (tbls : ∀ b ps, H b = some (.tbl ps) → ∃ more, H' b = some (.tbl (ps ++ more)))
    (ns : ∀ m, s.heap.Ns X.env.locals m → h'.Ns X.env.locals m) (hok : HOk X.prog X.w H' h') (hg : AllBare g') :
    Inv X pins σ H' { s with heap := h', gens := g', drawn := d', toks := t' } := by
  have neL : ∀ b o, X.s₀.heap.get? b = some o → b ≠ X.env.locals := fun b o e => Nat.ne_of_lt (Nat.lt_of_lt_of_le (Heap.lt_size e) I.ok.above)
  have neC : ∀ b o, X.s₀.heap.get? b = some o → b ∉ X.ex → b ∉ ch := fun b o e hx hb => by
    rcases (hch b hb).1 with z | z
    · exact hx z
    · exact absurd (Nat.lt_of_lt_of_le (Heap.lt_size e) z) (Nat.lt_irrefl _)
  have cellK : ∀ x c, X.env.cells.lookup x = some c → ∀ v, s.heap.IsCell c v → h'.IsCell c v := fun x c e v ⟨o, ho, hd⟩ => by
    have nch : c ∉ ch := fun z => (hch c z).2.2.1 x c e rfl
    by_cases hc : c ∈ X.fs
    · obtain ⟨sl, q⟩ := slot c o (I.cne x c e) hc nch ho (I.freeC x c e)
      exact ⟨_, q, hd⟩
    · exact ⟨o, keep c o (I.cne x c e) hc nch ho (I.freeC x c e), hd⟩
  refine ⟨I.ok, I.os, hg, ⟨fun b o e n hb hx => ?_, fun b o e n hb hx => ?_, fun b o e n hx => ?_, fun b o e hx => ?_, fun b xs e => tups b xs (I.base.tups b xs e), fun b o xs e => frzs b o xs (I.base.frzs b o xs e), fun b ps e => ?_⟩, ?_, fun x c e => ?_, ?_, fun x c e => ?_, fun p hp => ?_, hok, I.len⟩
  · exact keep b o (neL b o e) hb (neC b o e hx) (I.base.keep b o e n hb hx) (I.base.free b o e n hx)
  · obtain ⟨sl, e1⟩ := I.base.slot b o e n hb hx
    obtain ⟨sl', e2⟩ := slot b _ (neL b o e) hb (neC b o e hx) e1 (I.base.free b o e n hx)
    exact ⟨sl', e2⟩
  · obtain ⟨o', e1⟩ := I.base.there b o e hx
    exact free b o' (neC b o e hx) e1 (I.base.free b o e n hx)
  · obtain ⟨o', e1⟩ := I.base.there b o e hx
    exact there b o' (neC b o e hx) e1
  · obtain ⟨m1, e1⟩ := I.base.tbls b ps e
    obtain ⟨m2, e2⟩ := tbls b _ e1
    exact ⟨m1 ++ m2, by rw [e2, Array.append_assoc]⟩
  · obtain ⟨m, hn, hl⟩ := I.loc
    refine ⟨m, ns m hn, fun i x v e1 e2 e3 => ?_⟩
    obtain ⟨u, r, l⟩ := hl i x v e1 e2 e3
    refine ⟨u, r, ?_⟩
    rcases l with l | ⟨k, c, e, z⟩
    · exact .inl l
    · exact .inr ⟨k, c, e, cellK x c e _ z⟩
  · obtain ⟨v, z⟩ := I.cell x c e
    exact ⟨v, cellK x c e v z⟩
  · obtain ⟨m, ⟨o, _, _, ho, _⟩, _⟩ := I.loc
    exact free _ o (fun z => (hch _ z).2.1 rfl) ho I.free
  · obtain ⟨v, o, ho, hd⟩ := I.cell x c e
    exact free c o (fun z => (hch c z).2.2.1 x c e rfl) ho (I.freeC x c e)
  · obtain ⟨e, n, ne, nf, d⟩ := I.pin p hp
    have nch : p.1 ∉ ch := fun z => (hch p.1 z).2.2.2 p hp rfl
    exact ⟨keep p.1 p.2 ne nf nch e n, free p.1 p.2 nch e n, ne, nf, d⟩
/-- .. where the frame's own object is kept too -/
theorem Inv.un {t' : Nat} (I : Inv X pins σ H s) (u : Un X.fs [] H H' s.heap h') (hok : HOk X.prog X.w H' h') : Inv X pins σ H' { s with heap := h', toks := t' } := by
  obtain ⟨m, ⟨o, es, ep, ho, r⟩, _⟩ := id I.loc
  obtain ⟨sl, hL⟩ := u.any ho I.free (by simp)
  exact I.step (g' := s.gens) (d' := s.drawn) (ch := []) (fun _ z => nomatch z) (fun b o _ hb _ e n => u.keep b o e n hb (by simp)) (fun b o _ hb _ e n => u.slot b o e n hb (by simp)) (fun b o _ e n => u.free b o e n (by simp)) (fun b o _ e => u.there b o e (by simp)) u.tups u.frzs u.tbls (fun m' hm => by
    obtain ⟨o', es', ep', ho', r'⟩ := hm
    rw [ho] at ho'; cases ho'
    exact ⟨_, es', ep', hL, r'⟩) hok I.bare
/-- behind a call (or a comprehension's block): the slots of this frame may have changed too, the records at ch may have turned -/
theorem Inv.call {g' : Array GenState} {t' : Nat} {d' : Drawn} {ch : List Addr} (I : Inv X pins σ H s) (u : Un (frs X.stack) ch H H' s.heap h') (hok : HOk X.prog X.w H' h') (hg : AllBare g')
    (hch : ∀ b ∈ ch, (b ∈ X.ex ∨ X.s₀.heap.objs.size ≤ b) ∧ b ≠ X.env.locals ∧ (∀ x c, X.env.cells.lookup x = some c → c ≠ b) ∧ ∀ p ∈ X.pn ++ pins, p.1 ≠ b) :
    Inv X pins σ H' { s with heap := h', gens := g', drawn := d', toks := t' } := by
  obtain ⟨m, ⟨o, es, ep, ho, r⟩, _⟩ := id I.loc
  obtain ⟨sl, hL⟩ := u.any ho I.free fun z => (hch _ z).2.1 rfl
  exact I.step (ch := ch) hch (fun b o hL hb hc e n => u.keep b o e n (fun z => (List.mem_cons.mp (I.stkSub b z)).elim hL hb) hc) (fun b o _ _ hc e n => u.any e n hc) (fun b o hc e n => u.free b o e n hc) (fun b o hc e => u.there b o e hc) u.tups u.frzs u.tbls (fun m' hm => by
    obtain ⟨o', es', ep', ho', r'⟩ := hm
    rw [ho] at ho'; cases ho'
    exact ⟨_, es', ep', hL, r'⟩) hok hg
/-- an untracked record of ours (an iterator) has turned -/
theorem Inv.turned {t' : Nat} {it : Addr} (I : Inv X pins σ H s) (k : ∀ b o, b ≠ it → s.heap.get? b = some o → h'.get? b = some o) (hn : H it = none) (hL : it ≠ X.env.locals)
    (h1 : it ∈ X.ex ∨ X.s₀.heap.objs.size ≤ it) (h2 : ∀ x c, X.env.cells.lookup x = some c → c ≠ it) (h3 : ∀ p ∈ X.pn ++ pins, p.1 ≠ it) : Inv X pins σ H { s with heap := h', toks := t' } := by
  have nit : ∀ b u, H b = some u → b ≠ it := fun b u e z => by rw [z, hn] at e; cases e
  refine I.step (g' := s.gens) (d' := s.drawn) (ch := [it]) (fun b hb => ?_) (fun b o _ _ hc e _ => k b o (fun z => hc (by simp [z])) e) (fun b o _ _ hc e _ => ⟨o.slots, k b o (fun z => hc (by simp [z])) e⟩) (fun _ _ _ _ n => n)
    (fun b o hc e => ⟨o, k b o (fun z => hc (by simp [z])) e⟩) (fun _ _ e => e) (fun _ _ _ e => e) (fun b ps e => ⟨#[], by rw [e]; simp⟩) (fun m hm => ?_) (fun b u e => ?_) I.bare
  · have e : b = it := by simpa using hb
    subst e
    exact ⟨h1, hL, h2, h3⟩
  · obtain ⟨o, es, ep, ho, r⟩ := hm
    exact ⟨o, es, ep, k _ o (Ne.symm hL) ho, r⟩
  · refine (I.hok b u e).stay (fun c v hc q => k c v ?_ q) (fun _ q => q) fun _ _ q => q
    rcases hc with z | z
    · rw [z]; exact nit b u e
    · exact nit c _ z
theorem Inv.tok (I : Inv X pins σ H s) (t : Nat) : Inv X pins σ H { s with toks := t } := I.un (h' := s.heap) (t' := t) Un.refl I.hok
/-- all objects kept -/
theorem Inv.kept {t' : Nat} (I : Inv X pins σ H s) (k : ∀ b u, s.heap.get? b = some u → h'.get? b = some u) : Inv X pins σ H { s with heap := h', toks := t' } := I.un (Un.kept k) (I.hok.kept k)
/-- a new object laid and tracked -/
theorem Inv.laid {a : Addr} {o : HO} {t' : Nat} (I : Inv X pins σ H s) (k : ∀ b u, s.heap.get? b = some u → h'.get? b = some u) (hp : s.heap.objs.size ≤ a) (new : ObjOk X.prog X.w (upd H a o) h' a o) :
    Inv X pins σ (upd H a o) { s with heap := h', toks := t' } := I.un (Un.laid k hp (I.hok.fresh hp)) (I.hok.laid k hp new)
/-- an object written -/
theorem Inv.write {x e : Addr} {o : HO} {t' : Nat} (I : Inv X pins σ H s) (mu : Mut (H x)) (he : e = x ∨ H e = some (.own x)) (k : ∀ b u, b ≠ e → s.heap.get? b = some u → h'.get? b = some u) (heo : ∃ u, h'.get? e = some u)
    (new : ObjOk X.prog X.w (upd H x o) h' x o) : Inv X pins σ (upd H x o) { s with heap := h', toks := t' } := I.un (Un.write mu he k heo) (I.hok.write mu he k heo new)
theorem Inv.pins_of {pins' : List (Addr × Obj)} (I : Inv X pins σ H s) (h : ∀ p ∈ pins', s.heap.get? p.1 = some p.2 ∧ H p.1 = none ∧ p.1 ≠ X.env.locals ∧ p.1 ∉ X.fs ∧ ∀ v, p.2.data ≠ .cell v) : Inv X pins' σ H s :=
  ⟨I.ok, I.os, I.bare, I.base, I.loc, I.cell, I.free, I.freeC, fun p hp => (List.mem_append.mp hp).elim (fun z => I.pin p (List.mem_append_left _ z)) (h p), I.hok, I.len⟩
theorem nodup_ix {N : List Str} (hN : N.Nodup) {i j : Nat} {x : Str} (a : N[i]? = some x) (b : N[j]? = some x) : i = j := by
  obtain ⟨h1, e1⟩ := List.getElem?_eq_some_iff.mp a
  obtain ⟨h2, e2⟩ := List.getElem?_eq_some_iff.mp b
  exact (List.getElem_inj hN).mp (e1.trans e2.symm)
/-- a name is stored; what changed -/
theorem store_ok2 {M : Model} {A : Around} {E : Value → Shared → Prop} {i : Nat} {x : Str} {v : V} {u : Value} {Q : Unit → Shared → Prop} (I : Inv X pins σ H s) (hN : X.N.Nodup) (hi : X.N[i]? = some x) (hx : Loc X.env.scope x) (r : RelV v u)
    (h : ∀ s', Inv X pins (σ.set i (some v)) H s' → (∃ a, Heap.SameBut a s.heap s'.heap ∧ (a = X.env.locals ∨ X.env.cells.lookup x = some a)) → Q () s') (hf : X.fn x = true ∨ X.env.scope.names.lookup x = some .local := by first | exact .inl rfl | exact .inr rfl | assumption) : wpAny M A (storeName X.env x u) Q E s := by
  obtain ⟨m, hn, hl⟩ := id I.loc
  have hcls : (X.env.scope.kind == .class || (X.env.scope.kind == .module && X.env.locals != X.env.globals)) = false := by rw [I.ok.kind]; rfl
  have hiσ : i < σ.length := by rw [I.len]; exact (List.getElem?_eq_some_iff.mp hi).1
  have cne := I.cne
  have tracked : ∀ {a : Addr} {h' : Heap}, (∃ o, s.heap.get? a = some o ∧ H a = none) → Heap.SameBut a s.heap h' → HOk X.prog X.w H h' := fun {a h'} ha hs b ob e => by
    obtain ⟨_, _, hfree⟩ := ha
    refine (I.hok b ob e).stay (fun c w' hc q => (hs.2 c ?_).trans q) (fun _ q => q) fun _ _ q => q
    rintro rfl
    rcases hc with rfl | hc
    · rw [hfree] at e; cases e
    · rw [hfree] at hc; cases hc
  rcases hx with hk | hk
  · refine wpAny_storeName_local hk hn (fun h' hn' hs => ?_) hcls
    obtain ⟨oL, _, _, hoL, _⟩ := id hn
    refine h _ ⟨I.ok, I.os, I.bare, ⟨fun b o e n hb hx => ?_, fun b o e n hb hx => ?_, I.base.free, fun b o e hx => ?_, I.base.tups, I.base.frzs, I.base.tbls⟩, ⟨_, hn', fun j y v' e1 e2 e3 => ?_⟩, fun y c e => ?_, I.free, I.freeC, fun p hp => ?_, tracked ⟨oL, hoL, I.free⟩ hs, by simpa using I.len⟩ ⟨_, hs, .inl rfl⟩
    · exact (hs.2 b (Nat.ne_of_lt (Nat.lt_of_lt_of_le (Heap.lt_size e) I.ok.above))).trans (I.base.keep b o e n hb hx)
    · obtain ⟨sl, e1⟩ := I.base.slot b o e n hb hx
      exact ⟨sl, (hs.2 b (Nat.ne_of_lt (Nat.lt_of_lt_of_le (Heap.lt_size e) I.ok.above))).trans e1⟩
    · obtain ⟨o', e1⟩ := I.base.there b o e hx
      exact ⟨o', (hs.2 b (Nat.ne_of_lt (Nat.lt_of_lt_of_le (Heap.lt_size e) I.ok.above))).trans e1⟩
    · by_cases hj : j = i
      · subst hj
        rw [hi] at e1; cases e1
        rw [List.getElem?_set_self hiσ] at e2
        cases e2
        exact ⟨u, r, .inl ⟨hk, by simp⟩⟩
      · rw [List.getElem?_set_ne (Ne.symm hj)] at e2
        obtain ⟨u', r', q⟩ := hl j y v' e1 e2 e3
        refine ⟨u', r', ?_⟩
        rcases q with ⟨k, e⟩ | ⟨k, c, e, z⟩
        · refine .inl ⟨k, ?_⟩
          have : y ≠ x := fun e => hj (nodup_ix hN e1 (e ▸ hi))
          simp [this, e]
        · exact .inr ⟨k, c, e, z.sameBut hs (cne y c e)⟩
    · obtain ⟨w', z⟩ := I.cell y c e
      exact ⟨w', z.sameBut hs (cne y c e)⟩
    · obtain ⟨e, n, ne, nf, d⟩ := I.pin p hp
      exact ⟨(hs.2 p.1 ne).trans e, n, ne, nf, d⟩
  · have hfn : X.fn x = true := by
      rcases hf with z | z
      · exact z
      · rw [z] at hk; cases hk
    obtain ⟨c, hc⟩ := I.ok.has x (.inl hk)
    obtain ⟨w', z⟩ := I.cell x c hc
    refine wpAny_storeName_cell I.ok.kind hk hc z (fun h' hc' hs => ?_)
    obtain ⟨oc, hoc, hocd⟩ := id z
    refine h { s with heap := h' } ⟨I.ok, I.os, I.bare, ⟨fun b o e n hb hx => ?_, fun b o e n hb hx => ?_, I.base.free, fun b o e hx => ?_, I.base.tups, I.base.frzs, I.base.tbls⟩, ⟨m, hn.sameBut hs (Ne.symm (cne x c hc)), fun j y v' e1 e2 e3 => ?_⟩, fun y c' e => ?_, I.free, I.freeC, fun p hp => ?_, tracked ⟨oc, hoc, I.freeC x c hc⟩ hs, by simpa using I.len⟩ ⟨c, hs, .inr hc⟩
    · exact (hs.2 b (Nat.ne_of_lt (Nat.lt_of_lt_of_le (Heap.lt_size e) (I.ok.cab x c hfn hc)))).trans (I.base.keep b o e n hb hx)
    · obtain ⟨sl, e1⟩ := I.base.slot b o e n hb hx
      exact ⟨sl, (hs.2 b (Nat.ne_of_lt (Nat.lt_of_lt_of_le (Heap.lt_size e) (I.ok.cab x c hfn hc)))).trans e1⟩
    · obtain ⟨o', e1⟩ := I.base.there b o e hx
      exact ⟨o', (hs.2 b (Nat.ne_of_lt (Nat.lt_of_lt_of_le (Heap.lt_size e) (I.ok.cab x c hfn hc)))).trans e1⟩
    · by_cases hj : j = i
      · subst hj
        rw [hi] at e1; cases e1
        rw [List.getElem?_set_self hiσ] at e2
        cases e2
        exact ⟨u, r, .inr ⟨.inl hk, c, hc, hc'⟩⟩
      · rw [List.getElem?_set_ne (Ne.symm hj)] at e2
        obtain ⟨u', r', q⟩ := hl j y v' e1 e2 e3
        refine ⟨u', r', ?_⟩
        rcases q with q | ⟨k, c', e, z'⟩
        · exact .inl q
        · refine .inr ⟨k, c', e, z'.sameBut hs ?_⟩
          rintro rfl
          exact hj (nodup_ix hN e1 (I.ok.inj _ _ _ e hc ▸ hi))
    · by_cases hcc : c' = c
      · subst hcc; exact ⟨_, hc'⟩
      · obtain ⟨w2, z2⟩ := I.cell y c' e
        exact ⟨w2, z2.sameBut hs hcc⟩
    · obtain ⟨e, n, ne, nf, d⟩ := I.pin p hp
      refine ⟨(hs.2 p.1 ?_).trans e, n, ne, nf, d⟩
      intro q
      rw [q, hoc] at e
      have q' : oc = p.2 := Option.some.inj e
      exact d w' (by rw [← q']; exact hocd)
theorem store_ok {M : Model} {A : Around} {E : Value → Shared → Prop} {i : Nat} {x : Str} {v : V} {u : Value} {Q : Unit → Shared → Prop} (I : Inv X pins σ H s) (hN : X.N.Nodup) (hi : X.N[i]? = some x) (hx : Loc X.env.scope x) (r : RelV v u)
    (h : ∀ s', Inv X pins (σ.set i (some v)) H s' → Q () s') (hf : X.fn x = true ∨ X.env.scope.names.lookup x = some .local := by first | exact .inl rfl | exact .inr rfl | assumption) : wpAny M A (storeName X.env x u) Q E s :=
  store_ok2 I hN hi hx r (fun s' I' _ => h s' I') hf
/-- behind a call or a block, the state as it is -/
theorem Inv.call' {s' : Shared} {ch : List Addr} (I : Inv X pins σ H s) (ho : s'.os = s.os) (u : Un (frs X.stack) ch H H' s.heap s'.heap) (hok : HOk X.prog X.w H' s'.heap) (hg : AllBare s'.gens)
    (hch : ∀ b ∈ ch, (b ∈ X.ex ∨ X.s₀.heap.objs.size ≤ b) ∧ b ≠ X.env.locals ∧ (∀ x c, X.env.cells.lookup x = some c → c ≠ b) ∧ ∀ p ∈ X.pn ++ pins, p.1 ≠ b) : Inv X pins σ H' s' := by
  obtain ⟨h', g', d', t', o'⟩ := s'
  have e : o' = s.os := ho
  subst e
  exact I.call (g' := g') (t' := t') (d' := d') u hok hg hch
end
/-! ### the judgements -/
/-- an exception: its class, its own dict's address (where it has one), the abstract heap behind it -/
abbrev XK := Value → Option Addr → Hp → Prop
abbrev St := List (Option V)
abbrev VK := V → Hp → Prop
/-- an expression's reading; a test's; an argument list's -/
abbrev TE := St → Hp → VK → Prop
abbrev TT := St → Hp → (Bool → Hp → Prop) → Prop
abbrev TA := St → Hp → (List V → Hp → Prop) → Prop
/-- what is wanted behind a statement -/
structure Ends where
  nx : St → Hp → Prop
  rt : VK
  bk : St → Hp → Prop := fun _ _ => False
  ct : St → Hp → Prop := fun _ _ => False
abbrev TS := Ends → St → Hp → Prop
def EP (X : Cx) (pins : List (Addr × Obj)) (σ : St) (Q : VK) (u : Value) (s' : Shared) : Prop := ∃ v H', Inv X pins σ H' s' ∧ RelV v u ∧ Q v H'
def TP (X : Cx) (pins : List (Addr × Obj)) (σ : St) (Q : Bool → Hp → Prop) (b : Bool) (s' : Shared) : Prop := ∃ H', Inv X pins σ H' s' ∧ Q b H'
def AP (X : Cx) (pins : List (Addr × Obj)) (σ : St) (Q : List V → Hp → Prop) (us : List Value) (s' : Shared) : Prop := ∃ vs H', Inv X pins σ H' s' ∧ Vals vs us ∧ Q vs H'
def SP (X : Cx) (pins : List (Addr × Obj)) (D : Ends) (f : Flow) (s' : Shared) : Prop :=
  match f with
  | .next => ∃ σ' H', Inv X pins σ' H' s' ∧ D.nx σ' H'
  | .brk => ∃ σ' H', Inv X pins σ' H' s' ∧ D.bk σ' H'
  | .cont => ∃ σ' H', Inv X pins σ' H' s' ∧ D.ct σ' H'
  | .ret u => ∃ v σ' H', Inv X pins σ' H' s' ∧ RelV v u ∧ D.rt v H'
def PE (X : Cx) (e : Expr) (t : TE) : Prop :=
  ∀ (pins : List (Addr × Obj)) (s : Shared) (σ : St) (H : Hp) (Q : VK), Inv X pins σ H s → t σ H Q → wpAny (model X.prog X.w) X.A (eval e X.env) (EP X pins σ Q) X.xe s
def PT (X : Cx) (e : Expr) (t : TT) : Prop :=
  ∀ (pins : List (Addr × Obj)) (s : Shared) (σ : St) (H : Hp) (Q : Bool → Hp → Prop), Inv X pins σ H s → t σ H Q → wpAny (model X.prog X.w) X.A (isTrue e X.env (eval e X.env)) (TP X pins σ Q) X.xe s
/-- a test whatever its 'whole' is (and, or) -/
def PW (X : Cx) (e : Expr) (t : TT) : Prop :=
  ∀ (whole : Sem Value) (pins : List (Addr × Obj)) (s : Shared) (σ : St) (H : Hp) (Q : Bool → Hp → Prop), Inv X pins σ H s → t σ H Q → wpAny (model X.prog X.w) X.A (isTrue e X.env whole) (TP X pins σ Q) X.xe s
theorem PW.pt {X : Cx} {e : Expr} {t : TT} (h : PW X e t) : PT X e t := h _
/-- an argument list (no star), from the left -/
def PA (X : Cx) (es : List Expr) (t : TA) : Prop :=
  ∀ (pos : Pos) (pins : List (Addr × Obj)) (s : Shared) (σ : St) (H : Hp) (Q : List V → Hp → Prop), Inv X pins σ H s → t σ H Q → wpAny (model X.prog X.w) X.A (spliced (backTo pos (starEach es X.env))) (AP X pins σ Q) X.xe s
def PS (X : Cx) (st : Stmt) (t : TS) : Prop :=
  ∀ (pins : List (Addr × Obj)) (s : Shared) (σ : St) (H : Hp) (D : Ends), Inv X pins σ H s → t D σ H → wpAny (model X.prog X.w) X.A (exec st X.env) (SP X pins D) X.xe s
def PSs (X : Cx) (st : List Stmt) (t : TS) : Prop :=
  ∀ (pins : List (Addr × Obj)) (s : Shared) (σ : St) (H : Hp) (D : Ends), Inv X pins σ H s → t D σ H → wpAny (model X.prog X.w) X.A (execs st X.env) (SP X pins D) X.xe s
/-- weaken the end -/
theorem thn {α : Type} {t : Sem α} {Q Q' : α → Shared → Prop} {M : Model} {A : Around} {E : Value → Shared → Prop} {s : Shared} (h : wpAny M A t Q E s) (hQ : ∀ a s, Q a s → Q' a s) : wpAny M A t Q' E s := wpAny_mono h hQ fun _ _ x => x
theorem thnE {X : Cx} {pins : List (Addr × Obj)} {σ : St} {Q : VK} {t : Sem Value} {Q' : Value → Shared → Prop} {M : Model} {A : Around} {E : Value → Shared → Prop} {s : Shared} (h : wpAny M A t (EP X pins σ Q) E s) (hQ : ∀ u s' v H', Inv X pins σ H' s' → RelV v u → Q v H' → Q' u s') : wpAny M A t Q' E s :=
  wpAny_mono h (fun u s' ⟨v, H', a, b, c⟩ => hQ u s' v H' a b c) fun _ _ x => x
end L2
namespace L2
open PySem PySem.Spec PyProof.Rows
section
variable {X : Cx}
/-! ### names and constants -/
def tVar (i : Nat) : TE := fun σ H Q => ∃ v, σ[i]? = some (some v) ∧ Q v H
def tC (v : V) : TE := fun _ H Q => Q v H
theorem pe_var {i : Nat} {x : Str} {pos : Pos} (hN : X.N[i]? = some x) (hv : Vis X.env.scope x) (hd : (x == ("__debug__" : Str)) = false := by decide) (hcd : (x == ("__classdict__" : Str)) = false := by decide) : PE X (.Name x pos) (tVar i) := by
  intro pins s σ H Q I h
  obtain ⟨v, e, h⟩ := h
  obtain ⟨m, hn, hl⟩ := I.loc
  obtain ⟨u, r, l⟩ := hl i x v hN e hv
  have fin : EP X pins σ Q u s := ⟨v, H, I, r, h⟩
  rcases l with ⟨hk, hm⟩ | ⟨hk, c, hc, hcell⟩
  · exact wpAny_Name (wpAny_loadName_local I.ok.kind hk hn hm fin) hd
  · rcases hk with hk | hk
    · exact wpAny_Name (wpAny_loadName_cell I.ok.kind hk hc hcell fin) hd
    · exact wpAny_Name (wpAny_loadName_free I.ok.kind hk hc hcell fin hcd) hd
theorem pe_int {i j pos} : PE X (.Constant (.int i) j pos) (tC (.int i)) := fun _ _ _ H _ I h => wpAny_Constant_int ⟨.int i, H, I.tok _, ⟨_, rfl⟩, h⟩
theorem pe_bl {b j pos} : PE X (.Constant (.bool b) j pos) (tC (.bl b)) := fun _ _ _ H _ I h => Constant_bool ⟨.bl b, H, I, rfl, h⟩
theorem pe_non {j pos} : PE X (.Constant .none j pos) (tC .non) := fun _ _ _ H _ I h => Constant_none ⟨.non, H, I, rfl, h⟩
theorem pe_str {x j pos} : PE X (.Constant (.str x) j pos) (tC (.str x)) := fun _ _ _ H _ I h => Calls.Constant_str ⟨.str x, H, I.tok _, ⟨_, rfl⟩, h⟩
/-- a global name of the def -/
def Gl (X : Cx) (x : Str) : Prop := X.env.kindOf x = some .globalImplicit
theorem ld_glob {E : Value → Shared → Prop} {pins : List (Addr × Obj)} {s : Shared} {σ : St} {H : Hp} {x : Str} {u : Value} {pos : Pos} {Q : Value → Shared → Prop} (I : Inv X pins σ H s) (hg : Gl X x) (hm : X.mg x = some u) (h : Q u s)
    (hd : (x == ("__debug__" : Str)) = false := by decide) : wpAny (model X.prog X.w) X.A (eval (.Name x pos) X.env) Q E s :=
  Calls.Name_function_global I.ok.kind hg (Calls.loadGlobal_global (by rw [I.ok.glob]; exact I.mod.glob.keeps I.bk) hm h) hd
theorem ld_blt {E : Value → Shared → Prop} {pins : List (Addr × Obj)} {s : Shared} {σ : St} {H : Hp} {x : Str} {u : Value} {pos : Pos} {Q : Value → Shared → Prop} (I : Inv X pins σ H s) (hg : Gl X x) (hm : X.mg x = none) (hv : bootBuiltins x = some u) (h : Q u s)
    (hn : x ≠ "__name__" := by decide) (hd : (x == ("__debug__" : Str)) = false := by decide) : wpAny (model X.prog X.w) X.A (eval (.Name x pos) X.env) Q E s := by
  obtain ⟨mb, h1, h2⟩ := I.mod.blt
  exact Calls.Name_function_global I.ok.kind hg (Calls.loadGlobal_builtin (by rw [I.ok.glob]; exact I.mod.glob.keeps I.bk) hm (by rw [I.ok.blt]; exact h1.keeps I.bk) ((h2 x hn).trans hv) h) hd
theorem pe_bltn {x : Str} {v : V} {u : Value} {pos : Pos} (hg : Gl X x) (hm : X.mg x = none) (hv : bootBuiltins x = some u) (r : RelV v u) (hn : x ≠ "__name__" := by decide) (hd : (x == ("__debug__" : Str)) = false := by decide) : PE X (.Name x pos) (tC v) :=
  fun _ _ _ H _ I h => ld_blt I hg hm hv ⟨v, H, I, r, h⟩ hn hd
/-! ### arithmetic -/
variable {a b : Expr} {ta tb : TE} {pos : Pos}
/-! ### comparisons -/
def PC (X : Cx) (op : CmpOp) (a b : Expr) (t : TE) : Prop :=
  ∀ (pins : List (Addr × Obj)) (s : Shared) (σ : St) (H : Hp) (Q : VK), Inv X pins σ H s → t σ H Q →
    wpAny (model X.prog X.w) X.A (eval a X.env) (fun v s₁ => wpAny (model X.prog X.w) X.A (eval b X.env) (fun u s₂ => wpAny (model X.prog X.w) X.A (compareOp op v u) (EP X pins σ Q) X.xe s₂) X.xe s₁) X.xe s
theorem nobehind (b : Expr) {op : CmpOp} (h : op ≠ .In) (h2 : op ≠ .NotIn) : behindInMarks op b = false := by
  have e1 : (op == CmpOp.In) = false := by cases op <;> first | rfl | exact absurd rfl h
  have e2 : (op == CmpOp.NotIn) = false := by cases op <;> first | rfl | exact absurd rfl h2
  cases b <;> simp [behindInMarks, e1, e2]
/-- is None -/
def tIsN (ta : TE) : TE := fun σ H Q => ta σ H fun x H1 => Q (.bl (decide (x = .non))) H1
def tNotN (ta : TE) : TE := fun σ H Q => ta σ H fun x H1 => Q (.bl (!decide (x = .non))) H1
theorem RelV.none_iff {x : V} {v : Value} (r : RelV x v) : (v == Value.none) = decide (x = .non) := by
  cases x with
  | non => cases r; rfl
  | bl _ => cases r; rfl
  | int _ => obtain ⟨t, rfl⟩ := r; rfl
  | str _ => obtain ⟨t, rfl⟩ := r; rfl
  | byt _ => obtain ⟨t, rfl⟩ := r; rfl
  | flt _ => obtain ⟨t, rfl⟩ := r; rfl
  | ref _ => cases r; rfl
  | ty _ => cases r; rfl
theorem pc_isN {j pos'} (ha : PE X a ta) : PC X .Is a (.Constant .none j pos') (tIsN ta) := by
  intro pins s σ H Q I h
  refine thnE (ha pins s σ H _ I h) fun v s1 x H1 I1 r1 q1 => ?_
  exact Constant_none (is_none_gen ⟨.bl _, H1, I1, by rw [r1.none_iff]; rfl, q1⟩)
theorem pc_notN {j pos'} (ha : PE X a ta) : PC X .IsNot a (.Constant .none j pos') (tNotN ta) := by
  intro pins s σ H Q I h
  refine thnE (ha pins s σ H _ I h) fun v s1 x H1 I1 r1 q1 => ?_
  exact Constant_none (isnot_none_gen ⟨.bl _, H1, I1, by rw [r1.none_iff]; rfl, q1⟩)
/-- a comparison as a value, as a test -/
def tB (t : TE) : TT := fun σ H Q => t σ H fun x H1 => ∃ c, x = .bl c ∧ Q c H1
theorem pe_cmp {op : CmpOp} {t : TE} (h : PC X op a b t) (h1 : behindInMarks op b = false := by first | exact nobehind _ (by decide) (by decide) | rfl) : PE X (.Compare a [op] [b] pos) t := fun pins s σ H Q I hw => wpAny_Compare1 (h pins s σ H Q I hw) h1
theorem pt_cmp {op : CmpOp} {t : TE} (h : PC X op a b t) (h1 : behindInMarks op b = false := by first | exact nobehind _ (by decide) (by decide) | rfl) : PT X (.Compare a [op] [b] pos) (tB t) := by
  intro pins s σ H Q I hw
  refine wpAny_isTrue_Compare1 (thn (h pins s σ H _ I hw) fun v s1 h1 => thn h1 fun u s2 h2 => thn h2 fun c s3 ⟨x, H1, I1, r1, q1⟩ => ?_) h1
  obtain ⟨d, rfl, q⟩ := q1
  cases r1
  exact wpAny_truthy_bool ⟨H1, I1, q⟩
/-- an expression whose value is a bool, as a test -/
theorem pt_val {e : Expr} {t : TE} (h : PE X e t) (he : ∀ whole, isTrue e X.env whole = (do let v ← whole; standAt e.pos; holding [v] (truthy v)) := by intro _; rfl) : PT X e (tB t) := by
  intro pins s σ H Q I hw
  refine isTrue_plain (thnE (h pins s σ H _ I hw) fun v s1 x H1 I1 r1 q1 => ?_) (he _)
  obtain ⟨d, rfl, q⟩ := q1
  cases r1
  exact wpAny_truthy_bool ⟨H1, I1, q⟩
/-! ### and, or, not -/
variable {tA tB' : TT} {rest : List Expr}
def tAnd (t u : TT) : TT := fun σ H Q => t σ H fun c H1 => if c = true then u σ H1 Q else Q false H1
def tOr (t u : TT) : TT := fun σ H Q => t σ H fun c H1 => if c = true then Q true H1 else u σ H1 Q
def tNot (t : TT) : TT := fun σ H Q => t σ H fun c H1 => Q (!c) H1
theorem pw_and1 (ha : PT X a tA) : PW X (.BoolOp .And [a] pos) tA := by
  intro wh pins s σ H Q I h
  refine isTrue_and (thn (ha pins s σ H Q I h) fun c s1 e => ?_)
  cases c with
  | true => exact isTrue_and_nil e
  | false => exact e
theorem pw_or1 (ha : PT X a tA) : PW X (.BoolOp .Or [a] pos) tA := by
  intro wh pins s σ H Q I h
  refine isTrue_or (thn (ha pins s σ H Q I h) fun c s1 e => ?_)
  cases c with
  | false => exact isTrue_or_nil e
  | true => exact e
theorem pw_and (ha : PT X a tA) (hb : PW X (.BoolOp .And (b :: rest) pos) tB') : PW X (.BoolOp .And (a :: b :: rest) pos) (tAnd tA tB') := by
  intro wh pins s σ H Q I h
  refine isTrue_and (thn (ha pins s σ H _ I h) fun c s1 ⟨H1, I1, q1⟩ => ?_)
  cases c with
  | true => exact hb wh pins s1 σ H1 Q I1 q1
  | false => exact ⟨H1, I1, q1⟩
theorem pw_or (ha : PT X a tA) (hb : PW X (.BoolOp .Or (b :: rest) pos) tB') : PW X (.BoolOp .Or (a :: b :: rest) pos) (tOr tA tB') := by
  intro wh pins s σ H Q I h
  refine isTrue_or (thn (ha pins s σ H _ I h) fun c s1 ⟨H1, I1, q1⟩ => ?_)
  cases c with
  | true => exact ⟨H1, I1, q1⟩
  | false => exact hb wh pins s1 σ H1 Q I1 q1
theorem pt_not (ha : PT X a tA) : PT X (.UnaryOp .Not a pos) (tNot tA) := by
  intro pins s σ H Q I h
  exact isTrue_not (ha pins s σ H (fun c H1 => Q (!c) H1) I h)
/-- .. as values (bools) -/
def tAndV (ta tb : TE) : TE := fun σ H Q => ta σ H fun x H1 => ∃ c, x = .bl c ∧ if c = true then tb σ H1 Q else Q (.bl false) H1
def tNotV (ta : TE) : TE := fun σ H Q => ta σ H fun x H1 => ∃ c, x = .bl c ∧ Q (.bl (!c)) H1
theorem pe_one {op} {t : TE} (h : PE X a t) : PE X (.BoolOp op [a] pos) t := fun pins s σ H Q I hw => BoolOp_one (h pins s σ H Q I hw)
theorem pe_and (ha : PE X a ta) (hb : PE X (.BoolOp .And (b :: rest) pos) tb) : PE X (.BoolOp .And (a :: b :: rest) pos) (tAndV ta tb) := by
  intro pins s σ H Q I h
  refine BoolOp_and (thnE (ha pins s σ H _ I h) fun v s1 x H1 I1 r1 q1 => ?_)
  obtain ⟨c, rfl, q1⟩ := q1
  cases r1
  refine wpAny_truthy_bool ?_
  cases c with
  | true => exact hb pins s1 σ H1 Q I1 q1
  | false => exact ⟨.bl false, H1, I1, rfl, q1⟩
theorem pe_not (ha : PE X a ta) : PE X (.UnaryOp .Not a pos) (tNotV ta) := by
  intro pins s σ H Q I h
  refine UnaryOp_ (thnE (ha pins s σ H _ I h) fun v s1 x H1 I1 r1 q1 => ?_)
  obtain ⟨c, rfl, q1⟩ := q1
  cases r1
  exact not_of (wpAny_truthy_bool ⟨.bl (!c), H1, I1, rfl, q1⟩)
end
end L2
namespace L2
open PySem PySem.Spec PyProof.Rows
/-! ### a list, a tuple that is read: tracked, frozen, or an object of the module -/
def SqL (K : PySem.W.Frag) (H : Hp) (a : Addr) (xs : List V) : Prop :=
  Rd H a (.lst xs) ∨
    ∃ (o : Obj) (its : Array Value) (n : Nat), K.lookup a = some o ∧ o.cls = .type "list" ∧ o.dict = none ∧ o.data = .seq its n ∧ its.size ≤ sizeLine ∧ Vals xs its.toList
def SqT (K : PySem.W.Frag) (H : Hp) (a : Addr) (xs : List V) : Prop :=
  Rd H a (.tup xs) ∨
    ∃ (o : Obj) (its : Array Value) (n : Nat), K.lookup a = some o ∧ o.cls = .type "tuple" ∧ o.data = .seq its n ∧ its.size ≤ sizeLine ∧ Vals xs its.toList
def absV : Value → Option V
  | .none => some .non
  | .bool b => some (.bl b)
  | .int i _ => some (.int i)
  | .str x _ => some (.str x)
  | .bytes b _ => some (.byt b)
  | .float b _ => some (.flt b)
  | .ref a => some (.ref a)
  | .type n => some (.ty n)
  | _ => none
theorem RelV.abs {x : V} {u : Value} (r : RelV x u) : absV u = some x := by
  cases x with
  | non => cases r; rfl
  | bl _ => cases r; rfl
  | int _ => obtain ⟨t, rfl⟩ := r; rfl
  | str _ => obtain ⟨t, rfl⟩ := r; rfl
  | byt _ => obtain ⟨t, rfl⟩ := r; rfl
  | flt _ => obtain ⟨t, rfl⟩ := r; rfl
  | ref _ => cases r; rfl
  | ty _ => cases r; rfl
theorem RelV.inj {x y : V} {u : Value} (r : RelV x u) (q : RelV y u) : x = y := Option.some.inj (r.abs.symm.trans q.abs)
theorem Vals.inj : ∀ {xs ys : List V} {us : List Value}, Vals xs us → Vals ys us → xs = ys
  | _, _, _, .nil, .nil => rfl
  | _, _, _, .cons r t, .cons r' t' => by rw [r.inj r', Vals.inj t t']
section
variable {X : Cx} {pins : List (Addr × Obj)} {σ : St} {H : Hp} {s : Shared} {a : Addr} {xs ys : List V}
theorem SqL.of {K : PySem.W.Frag} (h : H a = some (.lst xs)) : SqL K H a xs := .inl (.inl h)
theorem SqT.of {K : PySem.W.Frag} (h : H a = some (.tup xs)) : SqT K H a xs := .inl (.inl h)
theorem Inv.list (I : Inv X pins σ H s) (h : SqL X.K H a xs) : ∃ its : List Value, Vals xs its ∧ PlainL s.heap a its.toArray ∧ xs.length ≤ sizeLine := by
  rcases h with h | ⟨o, its, n, hk, hc, hd, hs, hz, r⟩
  · obtain ⟨z, its, n, r, e⟩ := h.ok I.hok
    exact ⟨its, r, ⟨_, n, e, rfl, rfl, rfl⟩, z⟩
  · refine ⟨its.toList, r, ⟨o, n, I.kIn a o hk, hc, hd, by simpa using hs⟩, ?_⟩
    have e := r.length
    simp only [Array.length_toList] at e
    omega
theorem Inv.tuple (I : Inv X pins σ H s) (h : SqT X.K H a xs) : ∃ its : List Value, Vals xs its ∧ IsTup s.heap a its.toArray ∧ xs.length ≤ sizeLine := by
  rcases h with h | ⟨o, its, n, hk, hc, hs, hz, r⟩
  · obtain ⟨z, its, r, p⟩ := h.ok I.hok
    exact ⟨its, r, p, z⟩
  · refine ⟨its.toList, r, ⟨o, I.kIn a o hk, hc, n, by simpa using hs⟩, ?_⟩
    have e := r.length
    simp only [Array.length_toList] at e
    omega
theorem Inv.list_inj (I : Inv X pins σ H s) (h : SqL X.K H a xs) (h' : SqL X.K H a ys) : xs = ys := by
  obtain ⟨its, r, ⟨o, n, e, _, _, d⟩, _⟩ := I.list h
  obtain ⟨its', r', ⟨o', n', e', _, _, d'⟩, _⟩ := I.list h'
  rw [e] at e'; cases e'
  rw [d] at d'
  injection d' with d1 _
  have : its = its' := by simpa using congrArg Array.toList d1
  subst this
  exact r.inj r'
theorem Inv.tuple_inj (I : Inv X pins σ H s) (h : SqT X.K H a xs) (h' : SqT X.K H a ys) : xs = ys := by
  obtain ⟨its, r, ⟨o, e, _, n, d⟩, _⟩ := I.tuple h
  obtain ⟨its', r', ⟨o', e', _, n', d'⟩, _⟩ := I.tuple h'
  rw [e] at e'; cases e'
  rw [d] at d'
  injection d' with d1 _
  have : its = its' := by simpa using congrArg Array.toList d1
  subst this
  exact r.inj r'
end
/-! ### another wish about exceptions -/
abbrev Cx.wish (X : Cx) (E : Value → Shared → Prop) : Cx := { X with xe := E }
/-- no exception leaves -/
abbrev Cx.nox (X : Cx) : Cx := X.wish fun _ _ => False
theorem Cx.Ok.wish {X : Cx} (ok : X.Ok) (E : Value → Shared → Prop) : (X.wish E).Ok :=
  ⟨ok.mod, ok.kind, ok.glob, ok.blt, ok.above, ok.inj, ok.has, ok.cab, ok.hd, ok.frames, ok.stk, ok.exf, ok.bs, ok.bsz, ok.noex, ok.exfs, ok.funs, ok.frf⟩
theorem Cx.Ok.unwish {X : Cx} {E : Value → Shared → Prop} (ok : (X.wish E).Ok) : X.Ok :=
  ⟨ok.mod, ok.kind, ok.glob, ok.blt, ok.above, ok.inj, ok.has, ok.cab, ok.hd, ok.frames, ok.stk, ok.exf, ok.bs, ok.bsz, ok.noex, ok.exfs, ok.funs, ok.frf⟩
section
variable {X : Cx} {pins : List (Addr × Obj)} {σ : St} {H : Hp} {s : Shared} {E : Value → Shared → Prop}
theorem Inv.wish (I : Inv X pins σ H s) (E : Value → Shared → Prop) : Inv (X.wish E) pins σ H s := ⟨I.ok.wish E, I.os, I.bare, I.base, I.loc, I.cell, I.free, I.freeC, I.pin, I.hok, I.len⟩
theorem Inv.unwish (I : Inv (X.wish E) pins σ H s) : Inv X pins σ H s := ⟨I.ok.unwish, I.os, I.bare, I.base, I.loc, I.cell, I.free, I.freeC, I.pin, I.hok, I.len⟩
theorem SP.unwish {D : Ends} {f : Flow} {s' : Shared} (h : SP (X.wish E) pins D f s') : SP X pins D f s' := by
  cases f with
  | next => obtain ⟨σ', H', I, q⟩ := h; exact ⟨σ', H', I.unwish, q⟩
  | brk => obtain ⟨σ', H', I, q⟩ := h; exact ⟨σ', H', I.unwish, q⟩
  | cont => obtain ⟨σ', H', I, q⟩ := h; exact ⟨σ', H', I.unwish, q⟩
  | ret u => obtain ⟨v, σ', H', I, r, q⟩ := h; exact ⟨v, σ', H', I.unwish, r, q⟩
theorem PSs.nox {st : List Stmt} {t : TS} (h : PSs X.nox st t) : PSs X st t := fun pins s σ H D I hw =>
  wpAny_mono (h pins s σ H D (I.wish _) hw) (fun _ _ q => q.unwish) fun _ _ z => False.elim z
end
/-! ### blocks and small statements -/
section
variable {X : Cx} {st : Stmt} {rest : List Stmt} {t u : TS} {e : Expr} {te : TE} {pos : Pos}
def tNext : TS := fun D σ H => D.nx σ H
def tSeq (t u : TS) : TS := fun D σ H => t { D with nx := u D } σ H
theorem pss_nil : PSs X [] tNext := fun _ _ σ H _ I h => wpAny_execs_nil ⟨σ, H, I, h⟩
theorem pss_cons (h1 : PS X st t) (h2 : PSs X rest u) : PSs X (st :: rest) (tSeq t u) := by
  intro pins s σ H D I h
  refine wpAny_execs_cons (thn (h1 pins s σ H { D with nx := u D } I h) fun f s1 q => ?_)
  cases f with
  | next =>
    obtain ⟨σ', H', I', q⟩ := q
    exact h2 pins s1 σ' H' D I' q
  | ret v => exact q
  | brk => exact q
  | cont => exact q
theorem pss_one (h1 : PS X st t) : PSs X [st] t := by
  intro pins s σ H D I h
  refine wpAny_execs_cons (thn (h1 pins s σ H D I h) fun f s1 q => ?_)
  cases f with
  | next => exact wpAny_execs_nil q
  | ret v => exact q
  | brk => exact q
  | cont => exact q
/-- in a def's body nothing is shown -/
theorem Inv.quiet {pins : List (Addr × Obj)} {σ : St} {H : Hp} {s : Shared} (I : Inv X pins σ H s) : interactive X.env = false := by simp [interactive, I.ok.kind]
/-- an expression whose value is dropped -/
def tDrop (te : TE) : TS := fun D σ H => te σ H fun _ H1 => D.nx σ H1
theorem ps_expr (he : PE X e te) (hs : swapsWith e none pos.line X.env = pure false := by rfl) : PS X (.Expr e pos) (tDrop te) := by
  intro pins s σ H D I h
  exact wpAny_Expr_any (thnE (he pins s σ H _ I h) fun v s1 x H1 I1 r1 q1 => ⟨σ, H1, I1, q1⟩) I.quiet hs
def tRet (te : TE) : TS := fun D σ H => te σ H D.rt
theorem ps_ret (he : PE X e te) : PS X (.Return (some e) pos) (tRet te) := by
  intro pins s σ H D I h
  exact wpAny_Return_some (thnE (he pins s σ H _ I h) fun v s1 x H1 I1 r1 q1 => ⟨x, σ, H1, I1, r1, q1⟩)
def tIfS (c : TT) (t u : TS) : TS := fun D σ H => c σ H fun b H1 => if b = true then t D σ H1 else u D σ H1
theorem ps_if {c : Expr} {a b : List Stmt} {tc : TT} (hc : PT X c tc) (ha : PSs X a t) (hb : PSs X b u) : PS X (.If c a b pos) (tIfS tc t u) := by
  intro pins s σ H D I h
  refine wpAny_If (thn (hc pins s σ H _ I h) fun d s1 ⟨H1, I1, q1⟩ => ?_)
  cases d with
  | true => exact ha pins s1 σ H1 D I1 q1
  | false => exact hb pins s1 σ H1 D I1 q1
end
/-! ### targets -/
abbrev TG := V → St → Hp → (St → Hp → Prop) → Prop
abbrev TGs := List V → St → Hp → (St → Hp → Prop) → Prop
def PG (X : Cx) (target : Expr) (t : TG) : Prop :=
  ∀ (pins : List (Addr × Obj)) (s : Shared) (σ : St) (H : Hp) (v : V) (u : Value) (Q : St → Hp → Prop), Inv X pins σ H s → RelV v u → t v σ H Q →
    wpAny (model X.prog X.w) X.A (assign target X.env u) (fun _ s' => ∃ σ' H', Inv X pins σ' H' s' ∧ Q σ' H') X.xe s
/-- several targets, one after another -/
def PGs (X : Cx) (ts : List Expr) (t : TGs) : Prop :=
  ∀ (pins : List (Addr × Obj)) (s : Shared) (σ : St) (H : Hp) (vs : List V) (us : List Value) (Q : St → Hp → Prop), Inv X pins σ H s → Vals vs us → t vs σ H Q →
    wpAny (model X.prog X.w) X.A (assignInOrder ((assignEach ts X.env).map (·.2)) us) (fun _ s' => ∃ σ' H', Inv X pins σ' H' s' ∧ Q σ' H') X.xe s
section
variable {X : Cx} {pos : Pos}
def gName (i : Nat) : TG := fun v σ H Q => Q (σ.set i (some v)) H
theorem pg_name {i : Nat} {x : Str} (hN : X.N.Nodup) (hi : X.N[i]? = some x) (hx : Loc X.env.scope x) (hf : X.fn x = true ∨ X.env.scope.names.lookup x = some .local := by first | exact .inl rfl | exact .inr rfl | assumption) : PG X (.Name x pos) (gName i) := by
  intro pins s σ H v u Q I r h
  exact wpAny_assign_Name (store_ok I hN hi hx r (fun s' I' => ⟨_, H, I', h⟩) hf)
def gNil : TGs := fun vs σ H Q => vs = [] ∧ Q σ H
def gCons (t : TG) (u : TGs) : TGs := fun vs σ H Q => ∃ v r, vs = v :: r ∧ t v σ H fun σ' H' => u r σ' H' Q
theorem pgs_nil : PGs X [] gNil := by
  intro pins s σ H vs us Q I r h
  obtain ⟨e, h⟩ := h
  subst e
  cases r
  exact assignInOrder_nil ⟨σ, H, I, h⟩
theorem pgs_cons {e : Expr} {es : List Expr} {t : TG} {u : TGs} (h1 : PG X e t) (h2 : PGs X es u)
    (hs : (assignEach (e :: es) X.env).map (·.2) = assign e X.env :: (assignEach es X.env).map (·.2) := by rfl) : PGs X (e :: es) (gCons t u) := by
  intro pins s σ H vs us Q I r h
  obtain ⟨v, vr, e1, h⟩ := h
  subst e1
  cases r with
  | cons r rr =>
    rw [hs]
    refine assignInOrder_cons (thn (h1 pins s σ H _ _ _ I r h) fun _ s1 ⟨σ1, H1, I1, q1⟩ => ?_)
    exact h2 pins s1 σ1 H1 _ _ Q I1 rr q1
/-- (a, b, ..) = a tuple of that length -/
def gTup (K : PySem.W.Frag) (n : Nat) (t : TGs) : TG := fun v σ H Q => ∃ a xs, v = .ref a ∧ SqT K H a xs ∧ xs.length = n ∧ t xs σ H Q
theorem pg_tup {es : List Expr} {k : Nat} {t : TGs} {n : Nat} (hc : X.calm = true) (h : PGs X es t)
    (hn : (assignEach es X.env).length = n := by rfl) (hst : (assignEach es X.env).findIdx? (·.1) = none := by rfl) : PG X (.Tuple es k pos) (gTup X.K n t) := by
  intro pins s σ H v u Q I r hw
  obtain ⟨a, xs, e1, hq, hl, hw⟩ := hw
  subst e1
  cases r
  obtain ⟨its, rv, ht, hz⟩ := I.tuple hq
  refine assign_Tuple_tuple (I.ok.hd hc) ht (by simp [hn, ← hl, rv.length]) hst fun h' hx => ?_
  have I1 : Inv X pins σ H { s with heap := h' } := I.kept (t' := s.toks) fun b o e => hx b o (Nat.ne_of_lt (Heap.lt_size e)) e
  exact h pins _ σ H xs _ Q I1 (by simpa using rv) hw
/-- target = value -/
def tAsg (te : TE) (g : TG) : TS := fun D σ H => te σ H fun x H1 => g x σ H1 D.nx
/-- name = value -/
theorem ps_set {i : Nat} {x : Str} {e : Expr} {te : TE} {pos' : Pos} (hN : X.N.Nodup) (hi : X.N[i]? = some x) (hx : Loc X.env.scope x) (he : PE X e te) (hs : swapsWith e (some (.Name x pos')) pos.line X.env = pure false := by rfl) (hf : X.fn x = true ∨ X.env.scope.names.lookup x = some .local := by first | exact .inl rfl | exact .inr rfl | assumption) :
    PS X (.Assign [.Name x pos'] e pos) (tAsg te (gName i)) := by
  intro pins s σ H D I h
  refine wpAny_Assign_Name (thnE (he pins s σ H _ I h) fun v s1 y H1 I1 r1 q1 => ?_) hs
  exact store_ok I1 hN hi hx r1 (fun s2 I2 => ⟨_, H1, I2, q1⟩) hf
/-- a, b = x, y with plain local names: stored from the right; the pair itself is not tracked (the opening rows as in PyProof/Rows/TupAssign.lean:23) -/
def tPar (i j : Nat) (ta : TA) : TS := fun D σ H => ta σ H fun vs H1 => ∃ v w, vs = [v, w] ∧ D.nx ((σ.set i (some v)).set j (some w)) H1
theorem ps_par {i j : Nat} {x y : Str} {a b : Expr} {ta : TA} {px py pt : Pos} {kt k2 pt2} (hc : X.calm = true) (hN : X.N.Nodup) (hi : X.N[i]? = some x) (hj : X.N[j]? = some y) (hij : i ≠ j)
    (hx : X.env.scope.names.lookup x = some .local) (hy : X.env.scope.names.lookup y = some .local) (ha : PA X [a, b] ta)
    (hw : swappedStores [.Tuple [.Name x px, .Name y py] kt pt] (.Tuple [a, b] k2 pt2) X.env = pure (some [x, y]))
    (hs : swapsWithSole [.Tuple [.Name x px, .Name y py] kt pt] (.Tuple [a, b] k2 pt2) pos.line X.env = pure false := by rfl) :
    PS X (.Assign [.Tuple [.Name x px, .Name y py] kt pt] (.Tuple [a, b] k2 pt2) pos) (tPar i j ta) := by
  intro pins s σ H D I h
  rw [exec_Assign_arm]
  refine wpAny_bind (wpAny_standAt ?_)
  rw [hs]
  refine wpAny_bind (wpAny_pure ?_)
  rw [if_neg (by decide)]
  refine wpAny_bind (Tuple_ (thn (ha _ pins s σ H _ I h) fun us s1 ⟨vs, H1, I1, r1, q1⟩ => ?_))
  obtain ⟨v, w, e1, q1⟩ := q1
  subst e1
  obtain ⟨u1, u2, rfl, rv, rw'⟩ : ∃ u1 u2, us = [u1, u2] ∧ RelV v u1 ∧ RelV w u2 := by
    cases r1 with
    | cons p q =>
      cases q with
      | cons p' q' =>
        cases q'
        exact ⟨_, _, rfl, p, p'⟩
  refine wpAny_newObj_type ?_ (by show 2 ≤ sizeLine; decide)
  have I2 : Inv X pins σ H1 { s1 with heap := s1.heap.push { cls := .type "tuple", data := .seq [u1, u2].toArray } } := I1.kept (t' := s1.toks) fun b o e => Heap.get?_push_of_some _ e
  rw [hw]
  refine wpAny_bind (wpAny_pure ?_)
  show wpAny (model X.prog X.w) X.A (do rule "assign.swapped-stores"; let items ← unpackItems (.ref s1.heap.objs.size) 2 none; assignInOrder [fun v => bindName X.env y v, fun v => bindName X.env x v] items.reverse; pure Flow.next) _ _ _
  refine wpAny_bind (wpAny_rule (wpAny_bind (unpackItems_tuple (items := #[u1, u2]) (I.ok.hd hc) (IsTup.new s1.heap _) fun h' hx' => ?_)))
  have I3 := I2.kept (h' := h') (t' := s1.toks) fun b o e => hx' b o (Nat.ne_of_lt (Heap.lt_size e)) e
  show wpAny _ _ (assignInOrder [fun v => bindName X.env y v, fun v => bindName X.env x v] [u2, u1] >>= fun _ => pure Flow.next) _ _ _
  refine wpAny_bind (assignInOrder_cons (wpAny_bindName (store_ok I3 hN hj (.inl hy) rw' (fun s2 I4 => ?_) (.inr hy))))
  refine assignInOrder_cons (wpAny_bindName (store_ok I4 hN hi (.inl hx) rv (fun s3 I5 => assignInOrder_nil (wpAny_pure ?_)) (.inr hx)))
  rw [List.set_comm _ _ (Ne.symm hij)] at I5
  exact ⟨_, H1, I5, q1⟩
end
/-! ### while -/
section
variable {X : Cx} {pos : Pos}
/-- the invariant W with its measure -/
def tWhile (c : TT) (tb : TS) : TS := fun D σ H => ∃ W : Nat → St → Hp → Prop, (∃ m, W m σ H) ∧ ∀ m σ H, W m σ H →
  c σ H fun b H1 => if b = true then ∃ N : St → Hp → Prop, (∀ σ' H', N σ' H' → ∃ m', m' < m ∧ W m' σ' H') ∧ tb { D with nx := N, ct := N, bk := D.nx } σ H1 else D.nx σ H1
theorem ps_while {c : Expr} {body : List Stmt} {tc : TT} {tb : TS} (hp : PassesOwn (model X.prog X.w) X.A X.env X.xe) (hc : PT X c tc) (hb : PSs X body tb) : PS X (.While c body [] pos) (tWhile tc tb) := by
  intro pins s σ H D I h
  obtain ⟨W, ⟨m0, w0⟩, turn⟩ := h
  refine wpAny_While (codeAny_whileLoop (fun n s' => ∃ σ' H', Inv X pins σ' H' s' ∧ W n σ' H') ?_ m0 ⟨σ, H, I, w0⟩)
  rintro n s1 ⟨σ1, H1, I1, w1⟩
  refine wpAny_passesOwn hp (thn (hc pins s1 σ1 H1 _ I1 (turn n σ1 H1 w1)) fun b s2 ⟨H2, I2, q2⟩ => ?_)
  cases b with
  | true =>
    obtain ⟨N, hN, q2⟩ := q2
    rw [if_pos rfl]
    refine wpAny_passesOwn hp (thn (hb pins s2 σ1 H2 _ I2 q2) fun f s3 q3 => ?_)
    cases f with
    | next =>
      obtain ⟨σ3, H3, I3, n3⟩ := q3
      obtain ⟨m', hm, w3⟩ := hN σ3 H3 n3
      exact ⟨m', hm, σ3, H3, I3, w3⟩
    | cont =>
      obtain ⟨σ3, H3, I3, n3⟩ := q3
      obtain ⟨m', hm, w3⟩ := hN σ3 H3 n3
      exact ⟨m', hm, σ3, H3, I3, w3⟩
    | brk => exact q3
    | ret v => exact q3
  | false =>
    rw [if_neg Bool.false_ne_true]
    exact wpAny_execs_nil ⟨σ1, H2, I2, q2⟩
end
/-! ### what a loop or a comprehension walks -/
/-- at turn i: it yields x (the heap may grow), or it stops -/
structure It where
  go : Nat → Hp → Prop
  yld : Nat → Hp → V → Hp → Prop
  stop : Nat → Hp → Prop
/-- the iterator's own objects may turn: they are not the frame's, not pinned, younger than the entry (or a comprehension's own) -/
def FpOk (X : Cx) (pins : List (Addr × Obj)) (H : Hp) (b : Addr) : Prop :=
  H b = none ∧ b ≠ X.env.locals ∧ b ∉ X.fs ∧ (b ∈ X.ex ∨ X.s₀.heap.objs.size ≤ b) ∧ (∀ x c, X.env.cells.lookup x = some c → c ≠ b) ∧ ∀ p ∈ X.pn ++ pins, p.1 ≠ b
theorem Inv.fpOk {X : Cx} {pins : List (Addr × Obj)} {σ : St} {H H' : Hp} {s : Shared} {b : Addr} (I : Inv X pins σ H s) (hb : s.heap.objs.size ≤ b) (hn : H' b = none) : FpOk X pins H' b := by
  refine ⟨hn, Nat.ne_of_gt (Nat.lt_of_lt_of_le I.lt hb), I.nofs hb, .inr (Nat.le_trans I.sz hb), fun x c e z => ?_, fun p hp z => ?_⟩
  · obtain ⟨v, q⟩ := I.cell x c e
    exact absurd (Nat.lt_of_lt_of_le q.lt (by rw [z]; exact hb)) (Nat.lt_irrefl _)
  · exact absurd (Nat.lt_of_lt_of_le (Heap.lt_size (I.pin p hp).1) (by rw [z]; exact hb)) (Nat.lt_irrefl _)
structure Turn (P : Program) (w : World) (K : PySem.W.Frag) (tg : Expr) (J : It) (fp : List Addr) (it : Addr) (tn : Nat → Heap → Prop) : Prop where
  mem : it ∈ fp
  obj : ∀ i h, tn i h → ∀ b ∈ fp, ∃ o, h.get? b = some o ∧ ∀ v, o.data ≠ .cell v
  keep : ∀ i h h', tn i h → (∀ b ∈ fp, ∀ o, h.get? b = some o → h'.get? b = some o) → tn i h'
  item : ∀ (X : Cx), X.prog = P → X.w = w → X.K = K → X.calm = true → ∀ (i : Nat) (pins : List (Addr × Obj)) (s : Shared) (σ : St) (H : Hp) (E : Value → Shared → Prop), Inv X pins σ H s → (∀ b ∈ fp, FpOk X pins H b) → tn i s.heap → J.go i H →
    wpAny (model P w) X.A (pyNext (.ref it)) (fun r s1 => ∃ u, r = some u ∧
      wpAny (model P w) X.A (letOwnedTupleGo tg (.ref it) u) (fun _ s2 => ∃ x H', Inv X pins σ H' s2 ∧ RelV x u ∧ J.yld i H x H' ∧ tn (i + 1) s2.heap ∧ ∀ b ∈ fp, H' b = none) E s1) E s
  done : ∀ (X : Cx), X.prog = P → X.w = w → X.K = K → X.calm = true → ∀ (i : Nat) (pins : List (Addr × Obj)) (s : Shared) (σ : St) (H : Hp) (E : Value → Shared → Prop), Inv X pins σ H s → (∀ b ∈ fp, FpOk X pins H b) → tn i s.heap → J.stop i H →
    wpAny (model P w) X.A (pyNext (.ref it)) (fun r s1 => r = none ∧ Inv X pins σ H s1) E s
  self : ∀ (A : Around) (i : Nat) (s : Shared) (Q : Value → Shared → Prop) (E : Value → Shared → Prop), tn i s.heap → Q (.ref it) s → wpAny (model P w) A (pyIter (.ref it)) Q E s
abbrev TI := St → Hp → (It → Hp → Prop) → Prop
/-- an iterator has come -/
def PIE (X : Cx) (pins : List (Addr × Obj)) (σ : St) (tg : Expr) (R : It → Hp → Prop) (itv : Value) (s2 : Shared) : Prop :=
  ∃ (it : Addr) (fp : List Addr) (tn : Nat → Heap → Prop) (J : It) (H' : Hp), itv = .ref it ∧ Inv X pins σ H' s2 ∧ Turn X.prog X.w X.K tg J fp it tn ∧ tn 0 s2.heap ∧ (∀ b ∈ fp, FpOk X pins H' b) ∧ R J H'
def PI (X : Cx) (tg iter : Expr) (wi : TI) : Prop :=
  ∀ (pins : List (Addr × Obj)) (s : Shared) (σ : St) (H : Hp) (R : It → Hp → Prop), Inv X pins σ H s → wi σ H R →
    wpAny (model X.prog X.w) X.A (eval iter X.env) (fun v s1 => wpAny (model X.prog X.w) X.A (pyIter v) (PIE X pins σ tg R) X.xe s1) X.xe s
/-- the step ahead of the store is nothing for an iterator that keeps no tuple -/
theorem go_of {M : Model} {A : Around} {E : Value → Shared → Prop} {s : Shared} {tg : Expr} {it : Addr} {u : Value} {o : Obj} {n : String} {vs : Array Value} {Q : Unit → Shared → Prop} (ho : s.heap.get? it = some o) (hc : o.cls = .type n) (hd : o.data = .fields vs)
    (hn : ["enumerate", "zip", "dict_itemiterator", "dict_reverseitemiterator", "odict_iterator", "itertools.zip_longest", "itertools.pairwise"].contains n = false) (hQ : Q () s) : wpAny M A (letOwnedTupleGo tg (.ref it) u) Q E s := by
  unfold letOwnedTupleGo
  cases tg <;> first
    | exact wpAny_pure hQ
    | (cases u <;> first
        | exact wpAny_pure hQ
        | (refine wpAny_bind (wpAny_load ho ?_)
           rw [hc, hd]
           show wpAny M A (if (["enumerate", "zip", "dict_itemiterator", "dict_reverseitemiterator", "odict_iterator", "itertools.zip_longest", "itertools.pairwise"].contains n && vs[0]? == some (rawInt _)) = true then _ else _) Q E s
           rw [if_neg (by intro h; rw [hn, Bool.false_and] at h; cases h)]
           exact wpAny_pure hQ))
/-- the list at a, as it stands at each turn (a loop may append to it) -/
def Itl (K : PySem.W.Frag) (a : Addr) : It :=
  ⟨fun i H => ∃ xs x, SqL K H a xs ∧ xs[i]? = some x, fun i H x H' => H' = H ∧ ∀ xs, SqL K H a xs → xs[i]? = some x, fun i H => ∃ xs, SqL K H a xs ∧ xs.length ≤ i⟩
def Itt (K : PySem.W.Frag) (a : Addr) : It :=
  ⟨fun i H => ∃ xs x, SqT K H a xs ∧ xs[i]? = some x, fun i H x H' => H' = H ∧ ∀ xs, SqT K H a xs → xs[i]? = some x, fun i H => ∃ xs, SqT K H a xs ∧ xs.length ≤ i⟩
/-- lo, lo + 1, .. (n of them) -/
def Itr (lo : Int) (n : Nat) : It := ⟨fun i _ => i < n, fun i H x H' => H' = H ∧ x = .int (lo + i), fun i _ => n ≤ i⟩
theorem turn_list {P : Program} {w : World} {K : PySem.W.Frag} {tg : Expr} (a it : Addr) : Turn P w K tg (Itl K a) [it] it (fun i h => h.IsListIter it a i) where
  mem := by simp
  obj := fun i h st b hb => by
    have e : b = it := by simpa using hb
    subst e
    obtain ⟨o, e, c, d⟩ := st
    exact ⟨o, e, fun v z => by rw [d] at z; cases z⟩
  keep := fun i h h' st k => st.at fun o e => k it (by simp) o e
  item := by
    intro X hP hw hK hc i pins s σ H E I hf st hg
    subst hP hw hK
    obtain ⟨xs, x, hq, hx⟩ := hg
    obtain ⟨its, rv, p, hz⟩ := I.list hq
    obtain ⟨u, hu, ru⟩ := rv.get hx
    obtain ⟨f0, f1, f2, f3, f4, f5⟩ := hf it (by simp)
    refine wpAny_pyNext_list_item st p.isList (x := u) (by simpa using hu) fun h' st' sb => ?_
    have I1 : Inv X pins σ H { s with heap := h' } := I.turned (t' := s.toks) (fun b o hb e => (sb.2 b hb).trans e) f0 f1 f3 f4 f5
    obtain ⟨o, e, c, d⟩ := id st'
    exact ⟨u, rfl, go_of (s := { s with heap := h' }) e c d (by decide) ⟨x, H, I1, ru, ⟨rfl, fun ys hy => by rw [I.list_inj hy hq]; exact hx⟩, st', fun b hb => (hf b hb).1⟩⟩
  done := by
    intro X hP hw hK hc i pins s σ H E I hf st hg
    subst hP hw hK
    obtain ⟨xs, hq, hx⟩ := hg
    obtain ⟨its, rv, p, hz⟩ := I.list hq
    obtain ⟨f0, f1, f2, f3, f4, f5⟩ := hf it (by simp)
    have hl := rv.length
    exact wpAny_pyNext_list_end (I.ok.hd hc) st p.isList (by simp; omega) fun h' eb => ⟨rfl, I.turned (t' := s.toks) (fun b o hb e => eb b o hb e) f0 f1 f3 f4 f5⟩
  self := fun _ _ _ _ _ st h => wpAny_pyIter_listiter st h
theorem turn_tuple {P : Program} {w : World} {K : PySem.W.Frag} {tg : Expr} (a it : Addr) : Turn P w K tg (Itt K a) [it] it (fun i h => h.IsTupleIter it a i) where
  mem := by simp
  obj := fun i h st b hb => by
    have e : b = it := by simpa using hb
    subst e
    obtain ⟨o, e, c, d⟩ := st
    exact ⟨o, e, fun v z => by rw [d] at z; cases z⟩
  keep := fun i h h' st k => st.at fun o e => k it (by simp) o e
  item := by
    intro X hP hw hK hc i pins s σ H E I hf st hg
    subst hP hw hK
    obtain ⟨xs, x, hq, hx⟩ := hg
    obtain ⟨its, rv, p, hz⟩ := I.tuple hq
    obtain ⟨u, hu, ru⟩ := rv.get hx
    obtain ⟨f0, f1, f2, f3, f4, f5⟩ := hf it (by simp)
    refine wpAny_pyNext_tuple_item st (show s.heap.IsTuple a its.toArray from p) (x := u) (by simpa using hu) fun h' st' sb => ?_
    have I1 : Inv X pins σ H { s with heap := h' } := I.turned (t' := s.toks) (fun b o hb e => (sb.2 b hb).trans e) f0 f1 f3 f4 f5
    obtain ⟨o, e, c, d⟩ := id st'
    exact ⟨u, rfl, go_of (s := { s with heap := h' }) e c d (by decide) ⟨x, H, I1, ru, ⟨rfl, fun ys hy => by rw [I.tuple_inj hy hq]; exact hx⟩, st', fun b hb => (hf b hb).1⟩⟩
  done := by
    intro X hP hw hK hc i pins s σ H E I hf st hg
    subst hP hw hK
    obtain ⟨xs, hq, hx⟩ := hg
    obtain ⟨its, rv, p, hz⟩ := I.tuple hq
    obtain ⟨f0, f1, f2, f3, f4, f5⟩ := hf it (by simp)
    have hl := rv.length
    exact wpAny_pyNext_tuple_end (I.ok.hd hc) st (show s.heap.IsTuple a its.toArray from p) (by simp; omega) fun h' eb => ⟨rfl, I.turned (t' := s.toks) (fun b o hb e => eb b o hb e) f0 f1 f3 f4 f5⟩
  self := fun _ _ _ _ _ st h => wpAny_pyIter_tupleiter st h
theorem turn_range {P : Program} {w : World} {K : PySem.W.Frag} {tg : Expr} (it : Addr) (lo : Int) (n : Nat) : Turn P w K tg (Itr lo n) [it] it (fun i h => IsRangeIter h it (lo + (i : Nat) * 1) ((n : Int) - (i : Nat)) 1) where
  mem := by simp
  obj := fun i h st b hb => by
    have e : b = it := by simpa using hb
    subst e
    exact ⟨_, st, fun v z => by
      have z' : Data.fields _ = Data.cell v := z
      cases z'⟩
  keep := fun i h h' st k => k it (by simp) _ st
  item := by
    intro X hP hw hK hc i pins s σ H E I hf st hg
    subst hP hw hK
    obtain ⟨f0, f1, f2, f3, f4, f5⟩ := hf it (by simp)
    have W := Walks.range (prog := X.prog) (w := X.w) (I.ok.hd hc) it lo 1 n
    refine W.item i s _ _ hg st fun v h' tk hv st' kk => ?_
    obtain ⟨t, rfl⟩ := hv
    have I1 : Inv X pins σ H { s with heap := h', toks := tk } := I.turned (fun b o hb e => kk b o (by simpa using hb) e) f0 f1 f3 f4 f5
    refine ⟨_, rfl, go_of (s := { s with heap := h', toks := tk }) (n := "range_iterator") st' rfl rfl (by decide) ⟨.int (lo + i), H, I1, ⟨t, ?_⟩, ⟨rfl, rfl⟩, st', fun b hb => (hf b hb).1⟩⟩
    rw [Int.mul_one]
  done := by
    intro X hP hw hK hc i pins s σ H E I hf st hg
    subst hP hw hK
    obtain ⟨f0, f1, f2, f3, f4, f5⟩ := hf it (by simp)
    exact wpAny_pyNext_range_end (I.ok.hd hc) st (by have : n ≤ i := hg; omega) fun h' eb => ⟨rfl, I.turned (t' := s.toks) (fun b o hb e => eb b o hb e) f0 f1 f3 f4 f5⟩
  self := fun _ _ _ _ _ st h => wpAny_pyIter_rangeiter st h
end L2
namespace L2
open PySem PySem.Spec PyProof.Rows
section
variable {X : Cx} {tg : Expr}
def iList (K : PySem.W.Frag) (tl : TE) : TI := fun σ H R => tl σ H fun x H1 => ∃ a, x = .ref a ∧ (∃ xs, SqL K H1 a xs) ∧ R (Itl K a) H1
def iTup (K : PySem.W.Frag) (tl : TE) : TI := fun σ H R => tl σ H fun x H1 => ∃ a, x = .ref a ∧ (∃ xs, SqT K H1 a xs) ∧ R (Itt K a) H1
theorem pi_list {l : Expr} {tl : TE} (hl : PE X l tl) : PI X tg l (iList X.K tl) := by
  intro pins s σ H R I h
  refine thnE (hl pins s σ H _ I h) fun v s1 x H1 I1 r1 q1 => ?_
  obtain ⟨a, e, ⟨xs, hq⟩, q⟩ := q1
  subst e
  cases r1
  obtain ⟨its, rv, p, hz⟩ := I1.list hq
  refine wpAny_pyIter_list p.isList ?_
  refine ⟨s1.heap.objs.size, [s1.heap.objs.size], _, _, H1, rfl, I1.kept (t' := s1.toks) fun b o e => Heap.get?_push_of_some _ e, turn_list a _, ⟨_, Heap.get?_push_size _ rfl, rfl, rfl⟩, fun b hb => ?_, q⟩
  have e : b = s1.heap.objs.size := by simpa using hb
  subst e
  exact I1.fpOk (Nat.le_refl _) (I1.hok.fresh (Nat.le_refl _))
theorem pi_tup {l : Expr} {tl : TE} (hl : PE X l tl) : PI X tg l (iTup X.K tl) := by
  intro pins s σ H R I h
  refine thnE (hl pins s σ H _ I h) fun v s1 x H1 I1 r1 q1 => ?_
  obtain ⟨a, e, ⟨xs, hq⟩, q⟩ := q1
  subst e
  cases r1
  obtain ⟨its, rv, p, hz⟩ := I1.tuple hq
  refine wpAny_pyIter_tuple (show s1.heap.IsTuple a its.toArray from p) ?_
  refine ⟨s1.heap.objs.size, [s1.heap.objs.size], _, _, H1, rfl, I1.kept (t' := s1.toks) fun b o e => Heap.get?_push_of_some _ e, turn_tuple a _, ⟨_, Heap.get?_push_size _ rfl, rfl, rfl⟩, fun b hb => ?_, q⟩
  have e : b = s1.heap.objs.size := by simpa using hb
  subst e
  exact I1.fpOk (Nat.le_refl _) (I1.hok.fresh (Nat.le_refl _))
/-- a range object just made, walked -/
theorem range_it {pins : List (Addr × Obj)} {σ : St} {H : Hp} {s : Shared} {R : It → Hp → Prop} {E : Value → Shared → Prop} {lo hi : Int} {t u v : Tok} {tk : Nat} (I : Inv X pins σ H s) (h1 : -(2 ^ 62) ≤ lo) (h2 : lo < 2 ^ 62) (h3 : -(2 ^ 62) ≤ hi) (h4 : hi < 2 ^ 62)
    (q : R (Itr lo (hi - lo).toNat) H) : wpAny (model X.prog X.w) X.A (pyIter (.ref s.heap.objs.size)) (PIE X pins σ tg R) E { s with heap := s.heap.push { cls := .type "range", data := .fields #[.int lo t, .int hi u, .int 1 v] }, toks := tk } := by
  refine wpAny_pyIter_range (IsRange.new ..) (small_one h1 h2 h3 h4) ?_
  have I1 : Inv X pins σ H { s with heap := s.heap.push { cls := .type "range", data := .fields #[.int lo t, .int hi u, .int 1 v] }, toks := tk } := I.kept fun b o e => Heap.get?_push_of_some _ e
  refine ⟨(s.heap.push { cls := .type "range", data := .fields #[.int lo t, .int hi u, .int 1 v] }).objs.size, [(s.heap.push { cls := .type "range", data := .fields #[.int lo t, .int hi u, .int 1 v] }).objs.size], _, _, H, rfl,
    I1.kept (t' := tk) fun b o e => Heap.get?_push_of_some _ e, turn_range _ lo (hi - lo).toNat, ?_, fun b hb => ?_, q⟩
  · have e1 : lo + ((0 : Nat) : Int) * 1 = lo := by simp
    have e2 : (((hi - lo).toNat : Nat) : Int) - ((0 : Nat) : Int) = Builtin.Range.rangeSize lo hi 1 := by rw [rangeSize_one]; split <;> omega
    show IsRangeIter _ _ (lo + ((0 : Nat) : Int) * 1) ((((hi - lo).toNat : Nat) : Int) - ((0 : Nat) : Int)) 1
    rw [e1, e2]
    exact Heap.get?_push_size _ rfl
  · have e : b = (s.heap.push { cls := .type "range", data := .fields #[.int lo t, .int hi u, .int 1 v] }).objs.size := by simpa using hb
    subst e
    exact I1.fpOk (Nat.le_refl _) (I1.hok.fresh (Nat.le_refl _))
def iRng1 (ta : TA) : TI := fun σ H R => ta σ H fun vs H1 => ∃ j : Int, vs = [.int j] ∧ -(2 ^ 62) ≤ j ∧ j < 2 ^ 62 ∧ R (Itr 0 j.toNat) H1
def iRng2 (ta : TA) : TI := fun σ H R => ta σ H fun vs H1 => ∃ i j : Int, vs = [.int i, .int j] ∧ (-(2 ^ 62) ≤ i ∧ i < 2 ^ 62 ∧ -(2 ^ 62) ≤ j ∧ j < 2 ^ 62) ∧ R (Itr i (j - i).toNat) H1
theorem pi_range1 {a : Expr} {ta : TA} {p pos : Pos} (hg : Gl X "range") (hm : X.mg "range" = none) (ha : PA X [a] ta) (hs : starEach [a] X.env = [(false, eval a X.env)] := by rfl) : PI X tg (.Call (.Name "range" p) [a] [] pos) (iRng1 ta) := by
  intro pins s σ H R I h
  refine Call_ (ld_blt I hg hm boot_range (PyProof.Rows.callWith_type1 (thn (ha pos pins s σ H _ I h) fun us s1 ⟨vs, H1, I1, r1, q1⟩ => ?_) hs rfl))
  obtain ⟨j, e, q1, q2, q⟩ := q1
  subst e
  cases r1 with
  | cons r rr =>
    cases rr
    obtain ⟨t, rfl⟩ := r
    exact call_range_1 (range_it I1 (by omega) (by omega) q1 q2 (by simpa using q))
theorem pi_range2 {a b : Expr} {ta : TA} {p pos : Pos} (hg : Gl X "range") (hm : X.mg "range" = none) (ha : PA X [a, b] ta) (hs : starEach [a, b] X.env = [(false, eval a X.env), (false, eval b X.env)] := by rfl) (hs2 : starEach [b] X.env = [(false, eval b X.env)] := by rfl) :
    PI X tg (.Call (.Name "range" p) [a, b] [] pos) (iRng2 ta) := by
  intro pins s σ H R I h
  refine Call_ (ld_blt I hg hm boot_range (PyProof.Rows.callWith_type1 (thn (ha pos pins s σ H _ I h) fun us s1 ⟨vs, H1, I1, r1, q1⟩ => ?_) (by rw [hs, hs2]) (by rw [hs2]; rfl)))
  obtain ⟨i, j, e, ⟨q1, q2, q3, q4⟩, q⟩ := q1
  subst e
  cases r1 with
  | cons r rr =>
    cases rr with
    | cons r' rr =>
      cases rr
      obtain ⟨t, rfl⟩ := r
      obtain ⟨t', rfl⟩ := r'
      exact call_range_2 (range_it I1 q1 q2 q3 q4 q)
/-! ### for -/
/-- W: the invariant by the turn and a measure; N: what the body is to reach -/
def tFor (wi : TI) (g : TG) (tb : TS) : TS := fun D σ H => wi σ H fun J H1 => ∃ W : Nat → Nat → St → Hp → Prop, (∃ m, W 0 m σ H1) ∧ ∀ i m σ H, W i m σ H →
  (J.stop i H ∧ D.nx σ H) ∨ (J.go i H ∧ ∃ N : St → Hp → Prop, (∀ σ' H', N σ' H' → ∃ m', m' < m ∧ W (i + 1) m' σ' H') ∧ ∀ x H', J.yld i H x H' → g x σ H' fun σ2 H2 => tb { D with nx := N, ct := N, bk := D.nx } σ2 H2)
/-- the records at fp as they stand -/
def pinsAt (fp : List Addr) (h : Heap) : List (Addr × Obj) := fp.filterMap fun b => (h.get? b).map fun o => (b, o)
theorem mem_pinsAt {fp : List Addr} {h : Heap} {b : Addr} {o : Obj} (hb : b ∈ fp) (e : h.get? b = some o) : (b, o) ∈ pinsAt fp h := List.mem_filterMap.mpr ⟨b, hb, by rw [e]; rfl⟩
theorem of_pinsAt {fp : List Addr} {h : Heap} {p : Addr × Obj} (hp : p ∈ pinsAt fp h) : p.1 ∈ fp ∧ h.get? p.1 = some p.2 := by
  obtain ⟨b, hb, e⟩ := List.mem_filterMap.mp hp
  cases q : h.get? b with
  | none => rw [q] at e; cases e
  | some o =>
    rw [q] at e
    have e' : (b, o) = p := Option.some.inj e
    subst e'
    exact ⟨hb, q⟩
theorem Inv.pinned {pins : List (Addr × Obj)} {σ : St} {H : Hp} {s : Shared} {fp : List Addr} (I : Inv X pins σ H s) (hf : ∀ b ∈ fp, FpOk X pins H b) (ho : ∀ b ∈ fp, ∃ o, s.heap.get? b = some o ∧ ∀ v, o.data ≠ .cell v) : Inv X (pins ++ pinsAt fp s.heap) σ H s :=
  I.pins_of fun p hp => (List.mem_append.mp hp).elim (fun z => I.pin p (List.mem_append_right _ z)) fun z => by
    obtain ⟨hb, e⟩ := of_pinsAt z
    obtain ⟨f0, f1, f2, _⟩ := hf p.1 hb
    obtain ⟨o, e', d⟩ := ho p.1 hb
    rw [e] at e'; cases e'
    exact ⟨e, f0, f1, f2, d⟩
theorem Inv.unpinned {pins pl : List (Addr × Obj)} {σ : St} {H : Hp} {s : Shared} (I : Inv X (pins ++ pl) σ H s) : Inv X pins σ H s := I.pins_of fun p hp => I.pin p (List.mem_append_right _ (List.mem_append_left _ hp))
theorem ps_for {iter : Expr} {body : List Stmt} {wi : TI} {g : TG} {tb : TS} {pos : Pos} (hp : PassesOwn (model X.prog X.w) X.A X.env X.xe) (hc : X.calm = true) (hi : PI X tg iter wi) (hg : PG X tg g) (hb : PSs X body tb)
    (hs : ∀ x, foldedSetIterable iter X.env x = pure x := by intro _; rfl) : PS X (.For tg iter body [] pos) (tFor wi g tb) := by
  intro pins s σ H D I h
  refine wpAny_For (thn (hi pins s σ H _ I h) fun v s1 h1 => thn h1 fun itv s2 h2 => ?_) hs
  obtain ⟨it, fp, tn, J, H2, e, I2, T, st2, f2, W, ⟨m0, w0⟩, turn⟩ := h2
  subst e
  -- what stays true of the iterator's objects through the loop
  have stat : ∀ {H' : Hp}, (∀ b ∈ fp, H' b = none) → ∀ b ∈ fp, FpOk X pins H' b := fun hn b hb => ⟨hn b hb, (f2 b hb).2⟩
  refine codeAny_forLoop_any (fun n s' => ∃ i σ' H', Inv X pins σ' H' s' ∧ tn i s'.heap ∧ (∀ b ∈ fp, H' b = none) ∧ W i n σ' H') ?_ m0 ⟨0, σ, H2, I2, st2, fun b hb => (f2 b hb).1, w0⟩
  rintro n s3 ⟨i, σ3, H3, I3, st3, fr3, w3⟩
  rcases turn i n σ3 H3 w3 with ⟨stop, qn⟩ | ⟨go, N, hN, step⟩
  · refine wpAny_passesOwn hp (thn (T.done X rfl rfl rfl hc i pins s3 σ3 H3 X.xe I3 (stat fr3) st3 stop) fun r s4 ⟨hr, I4⟩ => ?_)
    subst hr
    exact wpAny_execs_nil ⟨σ3, H3, I4, qn⟩
  · refine wpAny_passesOwn hp (thn (T.item X rfl rfl rfl hc i pins s3 σ3 H3 X.xe I3 (stat fr3) st3 go) fun r s4 ⟨u, hr, h4⟩ => ?_)
    subst hr
    refine wpAny_passesOwn hp (thn h4 fun _ s5 ⟨x, H5, I5, r5, y5, st5, fr5⟩ => ?_)
    have I5' := I5.pinned (stat fr5) (T.obj _ _ st5)
    refine wpAny_passesOwn hp (thn (hg _ s5 σ3 H5 x u _ I5' r5 (step x H5 y5)) fun _ s6 ⟨σ6, H6, I6, q6⟩ => ?_)
    refine wpAny_passesOwn hp (thn (hb _ s6 σ6 H6 _ I6 q6) fun f s7 q7 => ?_)
    have again : ∀ {σ7 : St} {H7 : Hp}, Inv X (pins ++ pinsAt fp s5.heap) σ7 H7 s7 → N σ7 H7 → ∃ m, m < n ∧ ∃ i σ' H', Inv X pins σ' H' s7 ∧ tn i s7.heap ∧ (∀ b ∈ fp, H' b = none) ∧ W i m σ' H' := fun {σ7 H7} I7 n7 => by
      obtain ⟨m', hm, w7⟩ := hN σ7 H7 n7
      refine ⟨m', hm, i + 1, σ7, H7, I7.unpinned, T.keep _ _ _ st5 fun b hb o e => (I7.pin (b, o) (List.mem_append_right _ (List.mem_append_right _ (mem_pinsAt hb e)))).1, fun b hb => ?_, w7⟩
      obtain ⟨o, e, d⟩ := T.obj _ _ st5 b hb
      exact (I7.pin (b, o) (List.mem_append_right _ (List.mem_append_right _ (mem_pinsAt hb e)))).2.1
    cases f with
    | next => obtain ⟨σ7, H7, I7, n7⟩ := q7; exact again I7 n7
    | cont => obtain ⟨σ7, H7, I7, n7⟩ := q7; exact again I7 n7
    | brk => obtain ⟨σ7, H7, I7, q7⟩ := q7; exact ⟨σ7, H7, I7.unpinned, q7⟩
    | ret v => obtain ⟨x7, σ7, H7, I7, r7, q7⟩ := q7; exact ⟨x7, σ7, H7, I7.unpinned, r7, q7⟩
end
/-! ### the forms one uses -/
/-- over a list that the body leaves as it is -/
theorem for_list {K : PySem.W.Frag} {a : Addr} {xs : List V} {g : TG} {tb : TS} {D : Ends} {σ : St} {H : Hp} (Pv : Nat → St → Hp → Prop) (h0 : Pv 0 σ H) (hl : ∀ i σ H, i ≤ xs.length → Pv i σ H → SqL K H a xs)
    (hs : ∀ i x σ H, xs[i]? = some x → Pv i σ H → g x σ H fun σ2 H2 => tb { D with nx := Pv (i + 1), ct := Pv (i + 1), bk := D.nx } σ2 H2) (hd : ∀ σ H, Pv xs.length σ H → D.nx σ H) :
    ∃ W : Nat → Nat → St → Hp → Prop, (∃ m, W 0 m σ H) ∧ ∀ i m σ H, W i m σ H →
      ((Itl K a).stop i H ∧ D.nx σ H) ∨ ((Itl K a).go i H ∧ ∃ N : St → Hp → Prop, (∀ σ' H', N σ' H' → ∃ m', m' < m ∧ W (i + 1) m' σ' H') ∧ ∀ x H', (Itl K a).yld i H x H' → g x σ H' fun σ2 H2 => tb { D with nx := N, ct := N, bk := D.nx } σ2 H2) := by
  refine ⟨fun i m σ H => m = xs.length - i ∧ i ≤ xs.length ∧ Pv i σ H, ⟨xs.length, by simp, Nat.zero_le _, h0⟩, ?_⟩
  rintro i m σ H ⟨rfl, hi, p⟩
  have q := hl i σ H hi p
  by_cases hlt : i < xs.length
  · refine .inr ⟨⟨xs, xs[i], q, by simp [hlt]⟩, Pv (i + 1), fun σ' H' p' => ⟨xs.length - (i + 1), by omega, rfl, hlt, p'⟩, fun x H' y => ?_⟩
    obtain ⟨e, y⟩ := y
    subst e
    exact hs i x σ _ (y xs q) p
  · have e : i = xs.length := by omega
    subst e
    exact .inl ⟨⟨xs, q, Nat.le_refl _⟩, hd σ H p⟩
theorem for_tup {K : PySem.W.Frag} {a : Addr} {xs : List V} {g : TG} {tb : TS} {D : Ends} {σ : St} {H : Hp} (Pv : Nat → St → Hp → Prop) (h0 : Pv 0 σ H) (hl : ∀ i σ H, i ≤ xs.length → Pv i σ H → SqT K H a xs)
    (hs : ∀ i x σ H, xs[i]? = some x → Pv i σ H → g x σ H fun σ2 H2 => tb { D with nx := Pv (i + 1), ct := Pv (i + 1), bk := D.nx } σ2 H2) (hd : ∀ σ H, Pv xs.length σ H → D.nx σ H) :
    ∃ W : Nat → Nat → St → Hp → Prop, (∃ m, W 0 m σ H) ∧ ∀ i m σ H, W i m σ H →
      ((Itt K a).stop i H ∧ D.nx σ H) ∨ ((Itt K a).go i H ∧ ∃ N : St → Hp → Prop, (∀ σ' H', N σ' H' → ∃ m', m' < m ∧ W (i + 1) m' σ' H') ∧ ∀ x H', (Itt K a).yld i H x H' → g x σ H' fun σ2 H2 => tb { D with nx := N, ct := N, bk := D.nx } σ2 H2) := by
  refine ⟨fun i m σ H => m = xs.length - i ∧ i ≤ xs.length ∧ Pv i σ H, ⟨xs.length, by simp, Nat.zero_le _, h0⟩, ?_⟩
  rintro i m σ H ⟨rfl, hi, p⟩
  have q := hl i σ H hi p
  by_cases hlt : i < xs.length
  · refine .inr ⟨⟨xs, xs[i], q, by simp [hlt]⟩, Pv (i + 1), fun σ' H' p' => ⟨xs.length - (i + 1), by omega, rfl, hlt, p'⟩, fun x H' y => ?_⟩
    obtain ⟨e, y⟩ := y
    subst e
    exact hs i x σ _ (y xs q) p
  · have e : i = xs.length := by omega
    subst e
    exact .inl ⟨⟨xs, q, Nat.le_refl _⟩, hd σ H p⟩
theorem for_range {lo : Int} {n : Nat} {g : TG} {tb : TS} {D : Ends} {σ : St} {H : Hp} (Pv : Nat → St → Hp → Prop) (h0 : Pv 0 σ H)
    (hs : ∀ i σ H, i < n → Pv i σ H → g (.int (lo + i)) σ H fun σ2 H2 => tb { D with nx := Pv (i + 1), ct := Pv (i + 1), bk := D.nx } σ2 H2) (hd : ∀ σ H, Pv n σ H → D.nx σ H) :
    ∃ W : Nat → Nat → St → Hp → Prop, (∃ m, W 0 m σ H) ∧ ∀ i m σ H, W i m σ H →
      ((Itr lo n).stop i H ∧ D.nx σ H) ∨ ((Itr lo n).go i H ∧ ∃ N : St → Hp → Prop, (∀ σ' H', N σ' H' → ∃ m', m' < m ∧ W (i + 1) m' σ' H') ∧ ∀ x H', (Itr lo n).yld i H x H' → g x σ H' fun σ2 H2 => tb { D with nx := N, ct := N, bk := D.nx } σ2 H2) := by
  refine ⟨fun i m σ H => m = n - i ∧ i ≤ n ∧ Pv i σ H, ⟨n, by simp, Nat.zero_le _, h0⟩, ?_⟩
  rintro i m σ H ⟨rfl, hi, p⟩
  by_cases hlt : i < n
  · refine .inr ⟨hlt, Pv (i + 1), fun σ' H' p' => ⟨n - (i + 1), by omega, rfl, hlt, p'⟩, fun x H' y => ?_⟩
    obtain ⟨e, y⟩ := y
    subst e y
    exact hs i σ _ hlt p
  · have e : i = n := by omega
    subst e
    exact .inl ⟨Nat.le_refl _, hd σ H p⟩
end L2
namespace L2
open PySem PySem.Spec PyProof.Rows
abbrev R2 := V → V → Hp → VK → Prop
/-- a two-place operation on values: f is binaryOp op, inplaceOp op or compareOp op -/
def OpR (X : Cx) (f : Value → Value → Sem Value) (r : R2) : Prop :=
  ∀ (pins : List (Addr × Obj)) (s : Shared) (σ : St) (H : Hp) (x y : V) (v u : Value) (Q : VK), Inv X pins σ H s → RelV x v → RelV y u → r x y H Q →
    wpAny (model X.prog X.w) X.A (f v u) (EP X pins σ Q) X.xe s
/-- a one-place operation -/
def UnR (X : Cx) (f : Value → Sem Value) (r : V → Hp → VK → Prop) : Prop :=
  ∀ (pins : List (Addr × Obj)) (s : Shared) (σ : St) (H : Hp) (x : V) (v : Value) (Q : VK), Inv X pins σ H s → RelV x v → r x H Q →
    wpAny (model X.prog X.w) X.A (f v) (EP X pins σ Q) X.xe s
/-- a call of a value that is known (a builtin, a type) with values -/
def CallR (X : Cx) (f : Value) (r : List V → Hp → VK → Prop) : Prop :=
  ∀ (pins : List (Addr × Obj)) (s : Shared) (σ : St) (H : Hp) (xs : List V) (us : List Value) (Q : VK), Inv X pins σ H s → Vals xs us → r xs H Q →
    wpAny (model X.prog X.w) X.A (call f us) (EP X pins σ Q) X.xe s
def tOp (r : R2) (ta tb : TE) : TE := fun σ H Q => ta σ H fun x H1 => tb σ H1 fun y H2 => r x y H2 Q
def tUn (r : V → Hp → VK → Prop) (ta : TE) : TE := fun σ H Q => ta σ H fun x H1 => r x H1 Q
/-- ints in, under C, and a value out -/
def rI (C : Int → Int → Prop) (g : Int → Int → V) : R2 := fun x y H Q => ∃ i j, x = .int i ∧ y = .int j ∧ C i j ∧ Q (g i j) H
def rI0 (g : Int → Int → V) : R2 := fun x y H Q => ∃ i j, x = .int i ∧ y = .int j ∧ Q (g i j) H
def rU (g : Int → V) : V → Hp → VK → Prop := fun x H Q => ∃ i, x = .int i ∧ Q (g i) H
section
variable {X : Cx} {a b c : Expr} {ta tb tc : TE} {pos : Pos}
theorem binT (ha : PE X a ta) (hb : PE X b tb) {pins : List (Addr × Obj)} {s : Shared} {σ : St} {H : Hp} {R : V → V → Hp → Prop} (I : Inv X pins σ H s)
    (h : ta σ H fun x H1 => tb σ H1 fun y H2 => R x y H2) {Q : Value → Shared → Prop} {f : Value → Value → Sem Value}
    (hf : ∀ v u s2 x y H2, Inv X pins σ H2 s2 → RelV x v → RelV y u → R x y H2 → wpAny (model X.prog X.w) X.A (f v u) Q X.xe s2) :
    wpAny (model X.prog X.w) X.A (eval a X.env) (fun v s₁ => wpAny (model X.prog X.w) X.A (eval b X.env) (fun u s₂ => wpAny (model X.prog X.w) X.A (f v u) Q X.xe s₂) X.xe s₁) X.xe s := by
  refine thnE (ha pins s σ H _ I h) fun v s1 x H1 I1 r1 q1 => ?_
  refine thnE (hb pins s1 σ H1 _ I1 q1) fun u s2 y H2 I2 r2 q2 => ?_
  exact hf v u s2 x y H2 I2 r1 r2 q2
theorem pe_op {op : Operator} {r : R2} (ho : OpR X (binaryOp op) r) (ha : PE X a ta) (hb : PE X b tb) : PE X (.BinOp a op b pos) (tOp r ta tb) := by
  intro pins s σ H Q I h
  exact wpAny_BinOp (binT ha hb I h fun v u s2 x y H2 I2 rx ry q => ho pins s2 σ H2 x y v u Q I2 rx ry q)
theorem pe_un {op : UnaryOp} {r : V → Hp → VK → Prop} (ho : UnR X (unaryOp op) r) (ha : PE X a ta) : PE X (.UnaryOp op a pos) (tUn r ta) := by
  intro pins s σ H Q I h
  exact UnaryOp_ (thnE (ha pins s σ H _ I h) fun v s1 x H1 I1 r1 q1 => ho pins s1 σ H1 x v Q I1 r1 q1)
/-! ### ints -/
theorem opI {f : Value → Value → Sem Value} {C : Int → Int → Prop} {g : Int → Int → Int}
    (rule : ∀ (i j : Int) (t u : Tok) (s : Shared) (Q : Value → Shared → Prop) (E : Value → Shared → Prop), C i j → Q (.int (g i j) s.toks) { s with toks := s.toks + 1 } → wpAny (model X.prog X.w) X.A (f (.int i t) (.int j u)) Q E s) :
    OpR X f (rI C fun i j => .int (g i j)) := by
  intro pins s σ H x y v u Q I rx ry h
  obtain ⟨i, j, rfl, rfl, hc, q⟩ := h
  obtain ⟨t, rfl⟩ := rx
  obtain ⟨t', rfl⟩ := ry
  exact rule i j t t' s _ _ hc ⟨.int (g i j), H, I.tok _, ⟨_, rfl⟩, q⟩
theorem opI0 {f : Value → Value → Sem Value} {g : Int → Int → Int}
    (rule : ∀ (i j : Int) (t u : Tok) (s : Shared) (Q : Value → Shared → Prop) (E : Value → Shared → Prop), Q (.int (g i j) s.toks) { s with toks := s.toks + 1 } → wpAny (model X.prog X.w) X.A (f (.int i t) (.int j u)) Q E s) :
    OpR X f (rI0 fun i j => .int (g i j)) := by
  intro pins s σ H x y v u Q I rx ry h
  obtain ⟨i, j, rfl, rfl, q⟩ := h
  obtain ⟨t, rfl⟩ := rx
  obtain ⟨t', rfl⟩ := ry
  exact rule i j t t' s _ _ ⟨.int (g i j), H, I.tok _, ⟨_, rfl⟩, q⟩
theorem opB0 {f : Value → Value → Sem Value} {g : Int → Int → Bool}
    (rule : ∀ (i j : Int) (t u : Tok) (s : Shared) (Q : Value → Shared → Prop) (E : Value → Shared → Prop), Q (.bool (g i j)) s → wpAny (model X.prog X.w) X.A (f (.int i t) (.int j u)) Q E s) :
    OpR X f (rI0 fun i j => .bl (g i j)) := by
  intro pins s σ H x y v u Q I rx ry h
  obtain ⟨i, j, rfl, rfl, q⟩ := h
  obtain ⟨t, rfl⟩ := rx
  obtain ⟨t', rfl⟩ := ry
  exact rule i j t t' s _ _ ⟨.bl (g i j), H, I, rfl, q⟩
def CDiv (i j : Int) : Prop := 0 < j ∧ j < 1073741824
def CMul (i j : Int) : Prop := (-(2 ^ 64) < i ∧ i < 2 ^ 64) ∨ (-(2 ^ 64) < j ∧ j < 2 ^ 64)
theorem CMul.ok {i j : Int} (h : CMul i j) : IntMulOk i j := by
  rcases h with ⟨h1, h2⟩ | ⟨h1, h2⟩
  · exact .of_left (intBits_le_64 h1 h2)
  · exact .of_right (intBits_le_64 h1 h2)
theorem op_add : OpR X (binaryOp .Add) (rI0 fun i j => .int (i + j)) := opI0 fun _ _ _ _ _ _ _ q => add_int q
theorem op_sub : OpR X (binaryOp .Sub) (rI0 fun i j => .int (i - j)) := opI0 fun _ _ _ _ _ _ _ q => sub_int q
theorem op_mul : OpR X (binaryOp .Mult) (rI CMul fun i j => .int (i * j)) := opI fun _ _ _ _ _ _ _ hc q => mul_int q hc.ok
/-- // by a positive divisor -/
theorem op_fdiv : OpR X (binaryOp .FloorDiv) (rI CDiv fun i j => .int (i / j)) := opI fun i j _ _ _ _ _ hc q => by
  have h1 : (0 : Int) < j := hc.1
  have h2 : j < 1073741824 := hc.2
  exact floordiv_int (by omega) (by rw [Int.fdiv_eq_ediv_of_nonneg i (by omega)]; exact q) (.inl (PyProof.noPylong_small (by omega)))
/-- % by a positive divisor of any size -/
theorem op_mod : OpR X (binaryOp .Mod) (rI (fun _ j => 0 < j) fun i j => .int (i % j)) := opI fun i j _ _ _ _ _ hc q => by
  have h1 : (0 : Int) < j := hc
  exact mod_int' (by omega) (by rw [Int.fmod_eq_emod_of_nonneg i (by omega)]; exact q)
theorem unI {f : Value → Sem Value} {g : Int → Int}
    (rule : ∀ (i : Int) (t : Tok) (s : Shared) (Q : Value → Shared → Prop) (E : Value → Shared → Prop), Q (.int (g i) s.toks) { s with toks := s.toks + 1 } → wpAny (model X.prog X.w) X.A (f (.int i t)) Q E s) :
    UnR X f (rU fun i => .int (g i)) := by
  intro pins s σ H x v Q I rx h
  obtain ⟨i, rfl, q⟩ := h
  obtain ⟨t, rfl⟩ := rx
  exact rule i t s _ _ ⟨.int (g i), H, I.tok _, ⟨_, rfl⟩, q⟩
theorem un_neg : UnR X (unaryOp .USub) (rU fun i => .int (-i)) := unI fun _ _ _ _ _ q => neg_int q
/-! ### bools among ints: n += (a < b) -/
end
/-! ### comparisons -/
/-- the scalars that == tells apart as data does -/
def scal : V → V → Bool
  | .non, .non => true | .non, .int _ => true | .int _, .non => true | .non, .bl _ => true | .bl _, .non => true | .non, .str _ => true | .str _, .non => true
  | .int _, .int _ => true | .bl _, .bl _ => true | .str _, .str _ => true | .byt _, .byt _ => true
  | .int _, .str _ => true | .str _, .int _ => true | .bl _, .str _ => true | .str _, .bl _ => true
  | _, _ => false
def rEq : R2 := fun x y H Q => scal x y = true ∧ Q (.bl (decide (x = y))) H
def rNe : R2 := fun x y H Q => scal x y = true ∧ Q (.bl (!decide (x = y))) H
theorem dec_int {i j : Int} : decide (V.int i = V.int j) = (i == j) := by
  rw [Bool.eq_iff_iff]
  simp
theorem dec_bl {i j : Bool} : decide (V.bl i = V.bl j) = (i == j) := by
  rw [Bool.eq_iff_iff]
  simp
theorem dec_str {i j : Str} : decide (V.str i = V.str j) = (i == j) := by
  rw [Bool.eq_iff_iff]
  simp
theorem dec_byt {i j : Array UInt8} : decide (V.byt i = V.byt j) = (i.toList == j.toList) := by
  rw [Bool.eq_iff_iff]
  cases i
  cases j
  simp
section
variable {X : Cx} {a b c : Expr} {ta tb tc : TE} {pos : Pos}
theorem fin_bl {pins : List (Addr × Obj)} {σ : St} {H : Hp} {s : Shared} {Q : VK} {k k' : Bool} (I : Inv X pins σ H s) (q : Q (.bl k) H) (e : k = k') : EP X pins σ Q (.bool k') s := by
  subst e
  exact ⟨.bl k, H, I, rfl, q⟩
theorem op_eq : OpR X (compareOp .Eq) rEq := by
  intro pins s σ H x y v u Q I rx ry h
  obtain ⟨hs, q⟩ := h
  cases x with
  | non =>
    cases rx
    cases y with
    | non => cases ry; exact PySem.EqNone.eq_none_none (fin_bl I q (by simp))
    | bl j => cases ry; exact PySem.EqNone.eq_none_bool (fin_bl I q (by simp))
    | int j => obtain ⟨t', rfl⟩ := ry; exact PySem.EqNone.eq_none_int (fin_bl I q (by simp))
    | str j => obtain ⟨t', rfl⟩ := ry; exact PySem.EqNone.eq_none_str (fin_bl I q (by simp))
    | _ => exact absurd (show false = true from hs) Bool.false_ne_true
  | bl i =>
    cases rx
    cases y with
    | non => cases ry; exact PySem.EqNone.eq_bool_none (fin_bl I q (by simp))
    | bl j => cases ry; exact eq_bool (fin_bl I q dec_bl)
    | str j => obtain ⟨t', rfl⟩ := ry; exact PySem.EqMixed.eq_bool_str (fin_bl I q (by simp))
    | _ => exact absurd (show false = true from hs) Bool.false_ne_true
  | int i =>
    obtain ⟨t, rfl⟩ := rx
    cases y with
    | non => cases ry; exact PySem.EqNone.eq_int_none (fin_bl I q (by simp))
    | int j => obtain ⟨t', rfl⟩ := ry; exact eq_int (fin_bl I q dec_int)
    | str j => obtain ⟨t', rfl⟩ := ry; exact PySem.EqMixed.eq_int_str (fin_bl I q (by simp))
    | _ => exact absurd (show false = true from hs) Bool.false_ne_true
  | str i =>
    obtain ⟨t, rfl⟩ := rx
    cases y with
    | non => cases ry; exact PySem.EqNone.eq_str_none (fin_bl I q (by simp))
    | bl j => cases ry; exact PySem.EqMixed.eq_str_bool (fin_bl I q (by simp))
    | int j => obtain ⟨t', rfl⟩ := ry; exact PySem.EqMixed.eq_str_int (fin_bl I q (by simp))
    | str j => obtain ⟨t', rfl⟩ := ry; exact eq_str (fin_bl I q dec_str)
    | _ => exact absurd (show false = true from hs) Bool.false_ne_true
  | byt i =>
    obtain ⟨t, rfl⟩ := rx
    cases y with
    | byt j => obtain ⟨t', rfl⟩ := ry; exact PySem.W.eq_bytes (fin_bl I q dec_byt)
    | _ => exact absurd (show false = true from hs) Bool.false_ne_true
  | _ => cases y <;> exact absurd (show false = true from hs) Bool.false_ne_true
theorem op_ne : OpR X (compareOp .NotEq) rNe := by
  intro pins s σ H x y v u Q I rx ry h
  obtain ⟨hs, q⟩ := h
  cases x with
  | non =>
    cases rx
    cases y with
    | non => cases ry; exact PySem.EqNone.ne_none_none (fin_bl I q (by simp))
    | bl j => cases ry; exact PySem.EqNone.ne_none_bool (fin_bl I q (by simp))
    | int j => obtain ⟨t', rfl⟩ := ry; exact PySem.EqNone.ne_none_int (fin_bl I q (by simp))
    | str j => obtain ⟨t', rfl⟩ := ry; exact PySem.EqNone.ne_none_str (fin_bl I q (by simp))
    | _ => exact absurd (show false = true from hs) Bool.false_ne_true
  | bl i =>
    cases rx
    cases y with
    | non => cases ry; exact PySem.EqNone.ne_bool_none (fin_bl I q (by simp))
    | bl j => cases ry; exact ne_bool (fin_bl I q (congrArg not dec_bl))
    | str j => obtain ⟨t', rfl⟩ := ry; exact PySem.EqMixed.ne_bool_str (fin_bl I q (by simp))
    | _ => exact absurd (show false = true from hs) Bool.false_ne_true
  | int i =>
    obtain ⟨t, rfl⟩ := rx
    cases y with
    | non => cases ry; exact PySem.EqNone.ne_int_none (fin_bl I q (by simp))
    | int j => obtain ⟨t', rfl⟩ := ry; exact ne_int (fin_bl I q (congrArg not dec_int))
    | str j => obtain ⟨t', rfl⟩ := ry; exact PySem.EqMixed.ne_int_str (fin_bl I q (by simp))
    | _ => exact absurd (show false = true from hs) Bool.false_ne_true
  | str i =>
    obtain ⟨t, rfl⟩ := rx
    cases y with
    | non => cases ry; exact PySem.EqNone.ne_str_none (fin_bl I q (by simp))
    | bl j => cases ry; exact PySem.EqMixed.ne_str_bool (fin_bl I q (by simp))
    | int j => obtain ⟨t', rfl⟩ := ry; exact PySem.EqMixed.ne_str_int (fin_bl I q (by simp))
    | str j => obtain ⟨t', rfl⟩ := ry; exact ne_str (fin_bl I q (congrArg not dec_str))
    | _ => exact absurd (show false = true from hs) Bool.false_ne_true
  | byt i =>
    obtain ⟨t, rfl⟩ := rx
    cases y with
    | byt j => obtain ⟨t', rfl⟩ := ry; exact PySem.W.ne_bytes (fin_bl I q (congrArg not dec_byt))
    | _ => exact absurd (show false = true from hs) Bool.false_ne_true
  | _ => cases y <;> exact absurd (show false = true from hs) Bool.false_ne_true
theorem op_lt : OpR X (compareOp .Lt) (rI0 fun i j => .bl (decide (i < j))) := opB0 fun _ _ _ _ _ _ _ q => lt_int q
theorem op_gt : OpR X (compareOp .Gt) (rI0 fun i j => .bl (decide (j < i))) := opB0 fun _ _ _ _ _ _ _ q => gt_int q
theorem nomark (b : Expr) {op : CmpOp} (h : op ≠ .In := by decide) (h2 : op ≠ .NotIn := by decide) : behindInMarks op b = false := by
  have e1 : (op == CmpOp.In) = false := by cases op <;> first | rfl | exact absurd rfl h
  have e2 : (op == CmpOp.NotIn) = false := by cases op <;> first | rfl | exact absurd rfl h2
  cases b <;> simp [behindInMarks, e1, e2]
/-- a comparison as a value; hm: nomark b, or (for in, not in) by with_unfolding_all rfl -/
theorem pe_cmpR {op : CmpOp} {r : R2} (ho : OpR X (compareOp op) r) (ha : PE X a ta) (hb : PE X b tb) (hm : behindInMarks op b = false) : PE X (.Compare a [op] [b] pos) (tOp r ta tb) := by
  intro pins s σ H Q I h
  exact wpAny_Compare1 (binT ha hb I h fun v u s2 x y H2 I2 rx ry q => ho pins s2 σ H2 x y v u Q I2 rx ry q) hm
/-- a reading of a value as a test -/
def tTest (t : TE) : TT := fun σ H Q => t σ H fun x H' => ∃ k, x = .bl k ∧ Q k H'
theorem pt_cmpR {op : CmpOp} {r : R2} (ho : OpR X (compareOp op) r) (ha : PE X a ta) (hb : PE X b tb) (hm : behindInMarks op b = false) : PT X (.Compare a [op] [b] pos) (tTest (tOp r ta tb)) := by
  intro pins s σ H Q I h
  refine wpAny_isTrue_Compare1 (thnE (ha pins s σ H _ I h) fun v s1 x H1 I1 r1 q1 => thnE (hb pins s1 σ H1 _ I1 q1) fun u s2 y H2 I2 r2 q2 =>
    thn (ho pins s2 σ H2 x y v u _ I2 r1 r2 q2) fun c s3 ⟨z, H3, I3, r3, k, e, q3⟩ => ?_) hm
  subst e
  cases r3
  exact wpAny_truthy_bool ⟨H3, I3, q3⟩
/-! ### truth -/
theorem line63 : (sizeLine : Nat) < 2 ^ 63 := by rw [sizeLine_eq]; decide
/-! ### strs and bytes -/
theorem op_add_str : OpR X (binaryOp .Add) (fun x y H Q => ∃ i j, x = .str i ∧ y = .str j ∧ i.length + j.length ≤ sizeLine ∧ Q (.str (i ++ j)) H) := by
  intro pins s σ H x y v u Q I rx ry h
  obtain ⟨i, j, rfl, rfl, hz, q⟩ := h
  obtain ⟨t, rfl⟩ := rx
  obtain ⟨t', rfl⟩ := ry
  exact add_str (fun t' tk => ⟨.str (i ++ j), H, I.tok _, ⟨_, rfl⟩, q⟩) hz
/-! ### scalar builtins, by CallR -/
theorem vals1 {x : V} {us : List Value} (r : Vals [x] us) : ∃ u, us = [u] ∧ RelV x u := by
  cases r with
  | cons r1 r2 => cases r2; exact ⟨_, rfl, r1⟩
theorem vals2 {x y : V} {us : List Value} (r : Vals [x, y] us) : ∃ u w', us = [u, w'] ∧ RelV x u ∧ RelV y w' := by
  cases r with
  | cons r1 r2 =>
    cases r2 with
    | cons r3 r4 => cases r4; exact ⟨_, _, rfl, r1, r3⟩
theorem call_min2 (hc : X.calm = true) : CallR X (.builtin "min") (fun xs H Q => ∃ i j, xs = [.int i, .int j] ∧ Q (.int (if j < i then j else i)) H) := by
  intro pins s σ H xs us Q I r h
  obtain ⟨i, j, rfl, q⟩ := h
  obtain ⟨u, w', rfl, ⟨t, rfl⟩, ⟨t', rfl⟩⟩ := vals2 r
  refine min_two_ints (I.ok.hd hc) fun h' tk k => ⟨_, H, I.kept k, ?_, q⟩
  by_cases hj : j < i
  · rw [if_pos hj, if_pos hj]; exact ⟨_, rfl⟩
  · rw [if_neg hj, if_neg hj]; exact ⟨_, rfl⟩
end
end L2
namespace L2
open PySem PySem.Spec PyProof.Rows
/-! ### an instance, its attributes a map -/
structure ObjM (h : Heap) (x dx C : Addr) (mA : Str → Option Value) : Prop where
  obj : h.get? x = some (PySem.W.instObj C dx)
  ns : h.Ns1 dx mA
  ne : dx ≠ x
theorem lookIn_ns {h : Heap} {dx : Addr} {mA : Str → Option Value} (n : h.Ns1 dx mA) : ∃ od, h.get? dx = some od ∧ ∀ name, PySem.W.lookIn name od = some (mA name) := by
  obtain ⟨o, es, ep, ho, hd, hk, _, hm⟩ := n
  refine ⟨o, ho, fun name => ?_⟩
  have e := hm name
  unfold nsFind findBy at e
  rw [← Array.find?_toList] at e
  unfold PySem.W.lookIn
  rw [hd]
  dsimp only
  split
  · rename_i y q
    rw [q] at e
    exact congrArg some e
  · rename_i q
    rw [q] at e
    have a : es.toList.any (·.refKey) = false := by
      rw [List.any_eq_false]
      intro y hy
      obtain ⟨z, t, hkey⟩ := hk y (Array.mem_toList_iff.mp hy)
      simp [DictEntry.refKey, hkey]
    have a' : ¬ es.toList.any (·.refKey) = true := by rw [a]; exact Bool.false_ne_true
    rw [if_neg a']
    exact congrArg some e
theorem ObjM.look {h : Heap} {x dx C : Addr} {mA : Str → Option Value} (I : ObjM h x dx C mA) : ∃ od, PySem.W.InstAt h x (PySem.W.instObj C dx) C (some od) ∧ ∀ name, PySem.W.lookIn name od = some (mA name) :=
  let ⟨od, ho, hl⟩ := lookIn_ns I.ns
  ⟨od, ⟨I.obj, rfl, rfl, ho⟩, hl⟩
section
variable {prog : Program} {w : World} {A : Around} {E : Value → Shared → Prop} {s : Shared} {K : PySem.W.Frag} {x dx C f : Addr} {mA : Str → Option Value} {name : Str} {v : Value}
theorem get_map {expr : Bool} {Q : Value → Shared → Prop} (X : K.In s.heap) (I : ObjM s.heap x dx C mA) (hg : PySem.W.plainGet K C name = true) (hh : PySem.W.hasDictIn K C = true)
    (ha : PySem.W.findIn K (.ref C) name = some none) (hv : mA name = some v) (hv' : PySem.W.handedIn v = true) (h : Q v { s with toks := s.toks + 1 }) :
    wpAny (model prog w) A (getAttr (.ref x) name expr) Q E s := by
  obtain ⟨od, J, hl⟩ := I.look
  exact PySem.W.get_value X J (PySem.W.plainGet_of hg).1 (PySem.W.findObj_own hh ha rfl (by rw [hl, hv])) hv' h
theorem get_meth {pl : Sem Bool} {Q : Value × List Value → Shared → Prop} (X : K.In s.heap) (I : ObjM s.heap x dx C mA) (hg : PySem.W.plainGet K C name = true)
    (hf : PySem.W.findIn K (.ref C) name = some (some (.ref f))) (ht : PySem.W.isFn K (.ref f) = true) (hv : mA name = none) (h : Q (.ref f, [.ref x]) s) :
    wpAny (model prog w) A (getMethod (.ref x) name pl) Q E s := by
  obtain ⟨od, J, hl⟩ := I.look
  exact PySem.W.method_fn X J (PySem.W.plainGet_of hg).1 (PySem.W.plainGet_of hg).2 hf (beq_iff_eq.mp ht) (by show (PySem.W.lookIn name od).map (·.isSome) = some false; rw [hl, hv]; rfl) h
theorem set_map {ns : List Str} {Q : Unit → Shared → Prop} (X : K.In s.heap) (I : ObjM s.heap x dx C mA)
    (hs : PySem.W.findIn K (.ref C) "__setattr__" = some (some (.builtin "object.__setattr__"))) (hp : PySem.W.plainOver K C = true) (ht : PySem.W.takerIn K C name = some none) (hh : PySem.W.hasDictIn K C = true)
    (hw : PySem.Within mA ns) (hsz : ns.length ≤ sizeLine)
    (h : ∀ h', ObjM h' x dx C (fun y => if y = name then some v else mA y) → Heap.SameBut dx s.heap h' → Q () { s with heap := h', toks := s.toks + 2 }) :
    wpAny (model prog w) A (setAttr (.ref x) name v) Q E s := by
  obtain ⟨od, J, hl⟩ := I.look
  refine PySem.W.set_plain X J hs (PySem.W.osa_open (s := { s with toks := s.toks + 1 }) (r := none) X J hp ht fun b => ?_)
  obtain ⟨cd, hc, hd'⟩ := PySem.W.any_some hh
  have hx : s.heap.get? x = some ⟨.ref C, some dx, .plain, #[]⟩ := I.obj
  refine wpAny_bind (wpAny_pure (wpAny_bind (wpAny_bind (wpAny_loadPart hx (wpAny_bind (PySem.W.Looks.here (s := { s with toks := s.toks + 1 }) (PySem.W.looks_clsIn X hc) ?_))))))
  rw [hd']
  refine wpAny_pure (a := some dx) (wpAny_bind (wpAny_pure (wpAny_bind ?_)))
  refine wpAny_nsSet1 (s := { s with toks := s.toks + 1 }) I.ns fun h' hn2 hs2 => ?_
  obtain ⟨oD, esD, epD, hoD, hdD, hcD⟩ := hn2.count (PySem.Within.cons name v hw)
  refine wpAny_bind (wpAny_lookBehind hoD (by rw [hdD]; exact pastItsLine_dict (Nat.le_trans hcD (by rw [List.length_cons]; omega))) ?_)
  exact wpAny_pure (h _ ⟨(hs2.2 _ (Ne.symm I.ne)).trans I.obj, hn2, I.ne⟩ hs2)
/-- C(..): the dict at the heap's end, the instance behind it; then its __init__ -/
theorem make_map {R : Result → Shared → Prop} {vs : List Value} {kw : List (Str × Value)} (X : K.In s.heap) (hm : PySem.W.makesIn K C = true)
    (hi : PySem.W.findIn K (.ref C) "__init__" = some (some (.ref f))) (hf : PySem.W.typeIn K (.ref f) = some (.type "function"))
    (h : codeAny (model prog w) (A.under (.builtin "type.__call__" ⟨.ref C :: vs, kw⟩)) (.call (.ref f) ⟨.ref (s.heap.objs.size + 1) :: vs, kw⟩) (PySem.W.InitBack (s.heap.objs.size + 1) R)
      { s with heap := (s.heap.push PySem.W.emptyDict).push (PySem.W.instObj C s.heap.objs.size) }) :
    codeAny (model prog w) A (.call (.ref C) ⟨vs, kw⟩) R s := by
  obtain ⟨hh, g, d, t, os⟩ := s
  exact PySem.W.make_core (PySem.W.makes_of X hm) (PySem.W.looks_findIn X hi) (fun self => PySem.W.bind_fn X self hf) (.inl rfl) h
end
/-! ### the attributes as a list of pairs -/
def putF (f : Str) (v : V) : List (Str × V) → List (Str × V)
  | [] => [(f, v)]
  | (g, x) :: r => if g = f then (g, v) :: r else (g, x) :: putF f v r
theorem lookup_putF (f g : Str) (v : V) : ∀ fs : List (Str × V), (putF f v fs).lookup g = if g = f then some v else fs.lookup g
  | [] => by
    show List.lookup g [(f, v)] = _
    by_cases h : g = f
    · have hb : (g == f) = true := beq_iff_eq.mpr h
      simp only [List.lookup, hb, if_pos h]
    · have hb : (g == f) = false := beq_eq_false_iff_ne.mpr h
      simp only [List.lookup, hb, if_neg h]
  | (k, x) :: r => by
    have ih := lookup_putF f g v r
    rw [show putF f v ((k, x) :: r) = (if k = f then (k, v) :: r else (k, x) :: putF f v r) from rfl]
    by_cases hk : k = f
    · rw [if_pos hk]
      by_cases h : g = k
      · have hb : (g == k) = true := beq_iff_eq.mpr h
        simp only [List.lookup, hb, if_pos (h.trans hk)]
      · have hb : (g == k) = false := beq_eq_false_iff_ne.mpr h
        simp only [List.lookup, hb, if_neg (fun e : g = f => h (e.trans hk.symm))]
    · rw [if_neg hk]
      by_cases h : g = k
      · have hb : (g == k) = true := beq_iff_eq.mpr h
        simp only [List.lookup, hb, if_neg (fun e : g = f => hk (h.symm.trans e))]
      · have hb : (g == k) = false := beq_eq_false_iff_ne.mpr h
        simp only [List.lookup, hb]
        exact ih
theorem keys_putF (f : Str) (v : V) : ∀ fs : List (Str × V), f ∈ (putF f v fs).map (·.1) ∧ ∀ g, g ∈ fs.map (·.1) → g ∈ (putF f v fs).map (·.1)
  | [] => ⟨by simp [putF], fun g h => by simp at h⟩
  | (k, x) :: r => by
    obtain ⟨i1, i2⟩ := keys_putF f v r
    rw [show putF f v ((k, x) :: r) = (if k = f then (k, v) :: r else (k, x) :: putF f v r) from rfl]
    by_cases hk : k = f
    · rw [if_pos hk]
      subst hk
      exact ⟨by simp, fun g h => by simpa using h⟩
    · rw [if_neg hk]
      refine ⟨?_, fun g h => ?_⟩
      · rw [List.map_cons]
        exact List.mem_cons_of_mem _ i1
      · rw [List.map_cons] at h ⊢
        rcases List.mem_cons.mp h with e | e
        · exact List.mem_cons.mpr (.inl e)
        · exact List.mem_cons_of_mem _ (i2 g e)
theorem length_putF (f : Str) (v : V) : ∀ fs : List (Str × V), (putF f v fs).length ≤ fs.length + 1
  | [] => by simp [putF]
  | (k, x) :: r => by
    have ih := length_putF f v r
    rw [show putF f v ((k, x) :: r) = (if k = f then (k, v) :: r else (k, x) :: putF f v r) from rfl]
    by_cases hk : k = f
    · rw [if_pos hk, List.length_cons, List.length_cons]; omega
    · rw [if_neg hk, List.length_cons, List.length_cons]; omega
theorem RelO.some_of {v : V} {o : Option Value} (r : RelO (some v) o) : ∃ u, o = some u ∧ RelV v u := by
  cases o with
  | none => exact (show False from r).elim
  | some u => exact ⟨u, rfl, r⟩
theorem RelO.none_of {o : Option Value} (r : RelO none o) : o = none := by
  cases o with
  | none => rfl
  | some u => exact (show False from r).elim
theorem handed_of {v : V} {u : Value} (r : RelV v u) : PySem.W.handedIn u = true := by
  cases v with
  | non => cases (show u = Value.none from r); rfl
  | bl b => cases (show u = Value.bool b from r); rfl
  | int i => obtain ⟨t, e⟩ := (show ∃ t, u = Value.int i t from r); cases e; rfl
  | str x => obtain ⟨t, e⟩ := (show ∃ t, u = Value.str x t from r); cases e; rfl
  | byt b => obtain ⟨t, e⟩ := (show ∃ t, u = Value.bytes b t from r); cases e; rfl
  | flt b => obtain ⟨t, e⟩ := (show ∃ t, u = Value.float b t from r); cases e; rfl
  | ref a => cases (show u = Value.ref a from r); rfl
  | ty n => cases (show u = Value.type n from r); rfl
section
variable {P : Program} {w : World} {H H' : Hp} {h h' : Heap} {a C dx : Addr} {fs fs' : List (Str × V)}
theorem ins_get (hok : HOk P w H h) (e : H a = some (.ins C dx fs)) : ∃ mA, ObjM h a dx C mA ∧ (∀ f, RelO (fs.lookup f) (mA f)) ∧ PySem.Within mA (fs.map (·.1)) ∧ fs.length ≤ 1000 ∧ H dx = some (.own a) := by
  obtain ⟨d, z, ne, ob, mA, n, r, q⟩ := (show ObjOk P w H h a (.ins C dx fs) from hok a _ e)
  exact ⟨mA, ⟨ob, n, ne⟩, r, q, z, d⟩
end
/-! ### what of the text a class must have -/
structure Cls (K : PySem.W.Frag) (C : Addr) : Prop where
  pg : PySem.W.plainGet K C Str.empty = true
  hd : PySem.W.hasDictIn K C = true
  po : PySem.W.plainOver K C = true
  sa : PySem.W.findIn K (.ref C) "__setattr__" = some (some (.builtin "object.__setattr__"))
theorem Cls.get {K : PySem.W.Frag} {C : Addr} (c : Cls K C) (f : Str) : PySem.W.plainGet K C f = true := c.pg
/-- no class of it has the name -/
def NoAttr (K : PySem.W.Frag) (C : Addr) (f : Str) : Prop := PySem.W.findIn K (.ref C) f = some none
theorem NoAttr.taker {K : PySem.W.Frag} {C : Addr} {f : Str} (n : NoAttr K C f) : PySem.W.takerIn K C f = some none := by
  unfold PySem.W.takerIn
  rw [show PySem.W.findIn K (.ref C) f = some none from n]
  rfl
/-- a method: a plain def of the class or of one above it -/
structure Meth (K : PySem.W.Frag) (C : Addr) (m : Str) (f : Addr) : Prop where
  at_ : PySem.W.findIn K (.ref C) m = some (some (.ref f))
  fn : PySem.W.isFn K (.ref f) = true
  kp : PySem.W.keepIn K (.ref f) = true
section
variable {X : Cx} {pins : List (Addr × Obj)} {σ : St} {H : Hp} {s : Shared} {a C dx : Addr} {fs : List (Str × V)} {f : Str} {v : V} {A : Around} {E : Value → Shared → Prop}
theorem getattr_ok {b : Bool} {Q : Value → Shared → Prop} (I : Inv X pins σ H s) (e : H a = some (.ins C dx fs)) (c : Cls X.K C) (n : NoAttr X.K C f) (l : fs.lookup f = some v)
    (h : ∀ u s', Inv X pins σ H s' → RelV v u → Q u s') : wpAny (model X.prog X.w) A (getAttr (.ref a) f b) Q E s := by
  obtain ⟨mA, O, r, _, _, _⟩ := ins_get I.hok e
  obtain ⟨u, hu, ru⟩ := RelO.some_of (v := v) (o := mA f) (by rw [← l]; exact r f)
  exact get_map I.kIn O (c.get f) c.hd n hu (handed_of ru) (h u _ (I.tok _) ru)
theorem getmeth_ok {m : Str} {g : Addr} {pl : Sem Bool} {Q : Value × List Value → Shared → Prop} (I : Inv X pins σ H s) (e : H a = some (.ins C dx fs)) (c : Cls X.K C) (k : Meth X.K C m g) (l : fs.lookup m = none)
    (h : Q (.ref g, [.ref a]) s) : wpAny (model X.prog X.w) A (getMethod (.ref a) m pl) Q E s := by
  obtain ⟨mA, O, r, _, _, _⟩ := ins_get I.hok e
  have hn : mA m = none := RelO.none_of (by rw [← l]; exact r m)
  exact get_meth I.kIn O (c.get m) k.at_ k.fn hn h
theorem setattr_ok {y : V} {u : Value} {Q : Unit → Shared → Prop} (I : Inv X pins σ H s) (e : H a = some (.ins C dx fs)) (c : Cls X.K C) (n : NoAttr X.K C f) (hl : fs.length < 1000) (ry : RelV y u)
    (h : ∀ s', Inv X pins σ (upd H a (.ins C dx (putF f y fs))) s' → Q () s') : wpAny (model X.prog X.w) A (setAttr (.ref a) f u) Q E s := by
  obtain ⟨mA, O, r, wi, _, ho⟩ := ins_get I.hok e
  have hz : (fs.map (·.1)).length ≤ sizeLine := by rw [List.length_map, sizeLine_eq]; omega
  refine set_map I.kIn O c.sa c.po n.taker c.hd wi hz fun h' O' sb => h _ ?_
  have hd : ∃ o, h'.get? dx = some o := let ⟨o, _, _, e', _⟩ := O'.ns; ⟨o, e'⟩
  refine I.write (x := a) (e := dx) (by rw [e]; exact True.intro) (.inr ho) (fun b q hb z => (sb.2 b hb).trans z) hd ?_
  refine ⟨by rw [upd_ne O.ne]; exact ho, ?_, O.ne, O'.obj, _, O'.ns, fun g => ?_, fun g hg => ?_⟩
  · have := length_putF f y fs; omega
  · show RelO ((putF f y fs).lookup g) (if g = f then some u else mA g)
    rw [lookup_putF]
    by_cases q : g = f
    · rw [if_pos q, if_pos q]; exact ry
    · rw [if_neg q, if_neg q]; exact r g
  · by_cases q : g = f
    · rw [q]; exact (keys_putF f y fs).1
    · refine (keys_putF f y fs).2 g (wi g fun z => hg ?_)
      show (if g = f then some u else mA g) = none
      rw [if_neg q]; exact z
/-- a new instance, tracked, without attributes -/
theorem Inv.made (I : Inv X pins σ H s) : Inv X pins σ (upd (upd H s.heap.objs.size (.own (s.heap.objs.size + 1))) (s.heap.objs.size + 1) (.ins C s.heap.objs.size []))
    { s with heap := (s.heap.push PySem.W.emptyDict).push (PySem.W.instObj C s.heap.objs.size) } := by
  have e1 : (s.heap.push PySem.W.emptyDict).get? s.heap.objs.size = some PySem.W.emptyDict := Heap.get?_push_size s.heap rfl
  have e2 : ((s.heap.push PySem.W.emptyDict).push (PySem.W.instObj C s.heap.objs.size)).get? (s.heap.objs.size + 1) = some (PySem.W.instObj C s.heap.objs.size) := by
    have := Heap.get?_push_size (s.heap.push PySem.W.emptyDict) (o := PySem.W.instObj C s.heap.objs.size) rfl
    rwa [Heap.size_push] at this
  have e3 : (s.heap.push PySem.W.emptyDict).Ns s.heap.objs.size (fun _ => none) := ⟨PySem.W.emptyDict, #[], _, e1, rfl, (fun e he => absurd he (by simp)), fun _ => rfl⟩
  have I1 := I.laid (a := s.heap.objs.size) (o := .own (s.heap.objs.size + 1)) (h' := s.heap.push PySem.W.emptyDict) (t' := s.toks) (fun b u q => Heap.get?_push_of_some _ q) (Nat.le_refl _) ⟨_, e1⟩
  refine I1.laid (a := s.heap.objs.size + 1) (o := .ins C s.heap.objs.size []) (t' := s.toks) (fun b u q => Heap.get?_push_of_some _ q) (Nat.le_of_eq (Heap.size_push _ _)) ?_
  have ne : s.heap.objs.size ≠ s.heap.objs.size + 1 := Nat.ne_of_lt (Nat.lt_succ_self _)
  refine ⟨by rw [upd_ne ne, upd_same], Nat.zero_le _, ne, e2, fun _ => none, (Heap.Ns1.of_empty e3).at fun o q => Heap.get?_push_of_some _ q, fun _ => True.intro, fun y hy => absurd rfl hy⟩
/-- e.f where nothing but the object is asked: through attributeBase (super) and the last hold -/
theorem attr_of {prog : Program} {w : World} {env : Env} {e : Expr} {f : Str} {pos : Pos} {s : Shared} {Q : Value → Shared → Prop} (hb : attributeBase e f env (eval e env) = eval e env)
    (h : wpAny (model prog w) A (eval e env) (fun o s₁ => wpAny (model prog w) A (getAttr o f true) Q E s₁) E s) : wpAny (model prog w) A (eval (.Attribute e f pos) env) Q E s :=
  Attribute_any_ h (by rw [arm_eval_Attribute, hb])
end
/-! ### readings and rules -/
/-- e.f, an attribute of the instance -/
def tFld (K : PySem.W.Frag) (ta : TE) (f : Str) : TE := fun σ H Q => ta σ H fun x H1 => ∃ a C dx fs v, x = .ref a ∧ H1 a = some (.ins C dx fs) ∧ Cls K C ∧ NoAttr K C f ∧ fs.lookup f = some v ∧ Q v H1
/-- e.f = value -/
def sFld (K : PySem.W.Frag) (ta tv : TE) (f : Str) : TS := fun D σ H => tv σ H fun y H1 => ta σ H1 fun x H2 => ∃ a C dx fs, x = .ref a ∧ H2 a = some (.ins C dx fs) ∧ Cls K C ∧ NoAttr K C f ∧ fs.length < 1000 ∧
  D.nx σ (upd H2 a (.ins C dx (putF f y fs)))
section
variable {X : Cx} {o e value : Expr} {f : Str} {pos pos' tpos : Pos} {ta tv : TE}
theorem pe_fld (he : PE X e ta) (hb : attributeBase e f X.env (eval e X.env) = eval e X.env) : PE X (.Attribute e f pos) (tFld X.K ta f) := by
  intro pins s σ H Q I h
  refine attr_of hb (thn (he pins s σ H _ I h) fun u s1 ⟨x, H1, I1, rx, a, C, dx, fs, v, ex, ea, c, n, l, q⟩ => ?_)
  subst ex
  obtain rfl : u = Value.ref a := rx
  exact getattr_ok I1 ea c n l fun u' s2 I2 ru => ⟨v, H1, I2, ru, q⟩
theorem ps_fld (ha : PE X o ta) (hv : PE X value tv) (hs : swapsWith value (some (.Attribute o f pos')) pos.line X.env = pure false) : PS X (.Assign [.Attribute o f pos'] value pos) (sFld X.K ta tv f) := by
  intro pins s σ H D I h
  refine plainObj_wpAny_Assign_Attribute (thnE (hv pins s σ H _ I h) fun u s1 y H1 I1 ry q => thn (ha pins s1 σ H1 _ I1 q) fun ov s2 ⟨x, H2, I2, rx, a, C, dx, fs, ex, ea, c, n, l, q2⟩ => ?_) hs
  subst ex
  obtain rfl : ov = Value.ref a := rx
  exact setattr_ok I2 ea c n l ry fun s3 I3 => ⟨σ, _, I3, q2⟩
/-- what is between an instance and its method: the tree of a method call -/
theorem methcall_of {pl : Sem Bool} {m : Str} {apos : Pos} {args : List Expr} {pins : List (Addr × Obj)} {s : Shared} {σ : St} {H : Hp} {Q : Value → Shared → Prop} {te : TE} (he : PE X e te) (I : Inv X pins σ H s)
    (h : te σ H fun x H1 => ∃ a C dx fs g, x = .ref a ∧ H1 a = some (.ins C dx fs) ∧ Cls X.K C ∧ Meth X.K C m g ∧ fs.lookup m = none ∧
      ∀ s1, Inv X pins σ H1 s1 → wpAny (model X.prog X.w) X.A (callWith pos (.ref g) [.ref a] (backTo pos (starEach args X.env)) (backToKw pos (keywordEach [] X.env))) Q X.xe s1)
    (ht : eval (.Call (.Attribute e m apos) args [] pos) X.env = (do
      let ov ← eval e X.env
      standAt apos.atName
      let (f, first) ← holding [ov] (getMethod ov m pl)
      callWith pos f first (backTo pos (starEach args X.env)) (backToKw pos (keywordEach [] X.env)))) :
    wpAny (model X.prog X.w) X.A (eval (.Call (.Attribute e m apos) args [] pos) X.env) Q X.xe s := by
  refine PySem.W.methodCall_KW (pl := pl) (thn (he pins s σ H _ I h) fun u s1 ⟨x, H1, I1, rx, a, C, dx, fs, g, ex, ea, c, k, l, q⟩ => ?_) ht
  subst ex
  obtain rfl : u = Value.ref a := rx
  exact getmeth_ok I1 ea c k l (q s1 I1)
end
/-! ### isinstance -/
section
variable {X : Cx} {pins : List (Addr × Obj)} {σ : St} {H : Hp} {s : Shared} {A : Around} {E : Value → Shared → Prop} {Q : Value → Shared → Prop} {c : Value} {b : Bool}
/-- the type of a value, as the fragment's deciders take it; for an instance its class -/
inductive TyOf (K : PySem.W.Frag) (H : Hp) : V → Value → Prop where
  | non : TyOf K H .non (.type "NoneType")
  | bl (x : Bool) : TyOf K H (.bl x) (.type "bool")
  | int (i : Int) : TyOf K H (.int i) (.type "int")
  | str (x : Str) : TyOf K H (.str x) (.type "str")
  | flt (x : UInt64) : TyOf K H (.flt x) (.type "float")
  | lst {a : Addr} {xs : List V} (e : H a = some (.lst xs)) : TyOf K H (.ref a) (.type "list")
  | frz {a : Addr} {o : Obj} {xs : List V} (e : H a = some (.frz o (.lst xs))) : TyOf K H (.ref a) (.type "list")
  | tup {a : Addr} {xs : List V} (e : H a = some (.tup xs)) : TyOf K H (.ref a) (.type "tuple")
  | dK {a : Addr} {kvs : List (Key × V)} (e : H a = some (.dK kvs)) : TyOf K H (.ref a) (.type "dict")
  | dT {a : Addr} {kvs : List (List Key × V)} (e : H a = some (.dT kvs)) : TyOf K H (.ref a) (.type "dict")
  | ins {a C dx : Addr} {fs : List (Str × V)} (e : H a = some (.ins C dx fs)) (cl : Cls K C) (ha : PySem.W.findIn K (.ref C) "__class__" = some (some (.builtin "object.__class__")))
      (hn : PySem.W.specialIn K (.builtin "object.__class__") "__get__" = some (some (.builtin "getset_descriptor.__get__"))) (htk : PySem.W.takesIn K (.builtin "object.__class__") = some true)
      (hm : PySem.W.mroIn K C (.type "object") = some true) : TyOf K H (.ref a) (.ref C)
/-- isinstance(x, c) for one class c, a built-in or an own one: kitOne's answer -/
theorem isinst_ok {x : V} {u t : Value} (I : Inv X pins σ H s) (rx : RelV x u) (ty : TyOf X.K H x t) (e : PySem.W.kitOne X.K t c = some b) (h : ∀ tk, Q (.bool b) { s with toks := tk }) :
    wpAny (model X.prog X.w) A (call (.builtin "isinstance") [u, c]) Q E s := by
  cases ty with
  | non => cases (show u = Value.none from rx); exact PySem.W.kia_one PySem.W.kitx_none I.kIn True.intro e (fun z => nomatch z) h
  | bl y => cases (show u = Value.bool y from rx); exact PySem.W.kia_one PySem.W.kitx_bool I.kIn True.intro e (fun z => nomatch z) h
  | int i => obtain ⟨t, q⟩ := (show ∃ t, u = Value.int i t from rx); cases q; exact PySem.W.kia_one PySem.W.kitx_int I.kIn True.intro e (fun z => nomatch z) h
  | str y => obtain ⟨t, q⟩ := (show ∃ t, u = Value.str y t from rx); cases q; exact PySem.W.kia_one PySem.W.kitx_str I.kIn True.intro e (fun z => nomatch z) h
  | flt y => obtain ⟨t, q⟩ := (show ∃ t, u = Value.float y t from rx); cases q; exact PySem.W.kia_one PySem.W.kitx_float I.kIn True.intro e (fun z => nomatch z) h
  | @lst a xs ea =>
    cases (show u = Value.ref a from rx)
    obtain ⟨_, _, n, _, h1⟩ := (show ObjOk X.prog X.w H s.heap a (.lst xs) from I.hok a _ ea)
    exact PySem.W.kia_one PySem.W.kitx_list I.kIn ⟨_, h1, rfl⟩ e (fun z => nomatch z) h
  | @frz a ob xs ea =>
    cases (show u = Value.ref a from rx)
    obtain ⟨_, _, _, n, _, h1⟩ := (show ObjOk X.prog X.w H s.heap a (.frz ob (.lst xs)) from I.hok a _ ea)
    exact PySem.W.kia_one PySem.W.kitx_list I.kIn ⟨_, h1, rfl⟩ e (fun z => nomatch z) h
  | @tup a xs ea =>
    cases (show u = Value.ref a from rx)
    obtain ⟨_, _, _, p⟩ := (show ObjOk X.prog X.w H s.heap a (.tup xs) from I.hok a _ ea)
    obtain ⟨o, h1, h2, _⟩ := p
    exact PySem.W.kia_one PySem.W.kitx_tuple I.kIn ⟨o, h1, h2⟩ e (fun z => nomatch z) h
  | @dK a kvs ea =>
    cases (show u = Value.ref a from rx)
    obtain ⟨_, _, vs, _, p⟩ := (show ObjOk X.prog X.w H s.heap a (.dK kvs) from I.hok a _ ea)
    obtain ⟨o, es, ep, h1, h2, _⟩ := p
    exact PySem.W.kia_one PySem.W.kitx_dict I.kIn ⟨o, h1, h2.1⟩ e (fun z => nomatch z) h
  | @dT a kvs ea =>
    cases (show u = Value.ref a from rx)
    obtain ⟨_, _, xs, _, o, es, ep, h1, h2, _⟩ := (show ObjOk X.prog X.w H s.heap a (.dT kvs) from I.hok a _ ea)
    exact PySem.W.kia_one PySem.W.kitx_dict I.kIn ⟨o, h1, h2.1⟩ e (fun z => nomatch z) h
  | @ins a C dx fs ea cl ha hn htk hm =>
    cases (show u = Value.ref a from rx)
    obtain ⟨mA, O, _⟩ := ins_get I.hok ea
    obtain ⟨od, J, _⟩ := O.look
    exact PySem.W.kia_one (PySem.W.kitx_own (cl.get _) cl.hd ha hn htk hm) I.kIn J e (fun z => nomatch z) h
end
end L2
namespace L2
open PySem PySem.Spec PyProof.Rows
/-! ### room -/
structure Room (k : Nat) (A : Around) : Prop where
  hd : A.handled = none
  dp : A.depth + 3 * k + 5 < recursionLimit
  un : A.units + 16 * k + 200 < cLine
theorem Room.mono {j k : Nat} {A : Around} (r : Room k A) (h : j ≤ k) : Room j A := ⟨r.hd, by have := r.dp; omega, by have := r.un; omega⟩
theorem Room.deeper {k : Nat} {A : Around} (r : Room (k + 1) A) (env : Env) : Room k (A.deeper env) :=
  ⟨r.hd, by have := r.dp; show A.depth + 1 + 3 * k + 5 < _; omega, by have := r.un; show A.units + 3 + 16 * k + 200 < _; omega⟩
theorem make_depth {A : Around} {C : Addr} {us : List Value} {kw : List (Str × Value)} : (A.under (.builtin "type.__call__" ⟨.ref C :: us, kw⟩)).depth = A.depth + 1 := by
  first | rfl | simp [Around.under, Code.weight, Code.isCreation, Code.isGuard, Code.isCaller, Code.frames, Code.isFrame, guardIds]
theorem make_units {A : Around} {C : Addr} {us : List Value} {kw : List (Str × Value)} : (A.under (.builtin "type.__call__" ⟨.ref C :: us, kw⟩)).units = A.units + 1 := by
  first | rfl | simp [Around.under, Code.cUnits, Code.frames, Code.isFrame]
theorem Room.make {k : Nat} {A : Around} (r : Room (k + 1) A) (C : Addr) (us : List Value) (kw : List (Str × Value)) : Room k (A.under (.builtin "type.__call__" ⟨.ref C :: us, kw⟩)) :=
  ⟨r.hd, by have := r.dp; rw [make_depth]; omega, by have := r.un; rw [make_units]; omega⟩
theorem Room.depth {k : Nat} {A : Around} (r : Room k A) : A.depth < recursionLimit := by have := r.dp; omega
theorem Room.units {k : Nat} {A : Around} (r : Room k A) : A.units + 64 < cLine := by have := r.un; omega
/-! ### argument lists and displays -/
def tNil : TA := fun _ H Q => Q [] H
def tCons (ta : TE) (tr : TA) : TA := fun σ H Q => ta σ H fun x H1 => tr σ H1 fun xs H2 => Q (x :: xs) H2
section
variable {X : Cx} {e : Expr} {es : List Expr} {te : TE} {t : TA} {pos : Pos}
theorem pa_nil : PA X [] tNil := fun _ _ _ _ H Q I h => Calls.spliced_nil ⟨[], H, I, .nil, h⟩
theorem pa_cons (ha : PE X e te) (hr : PA X es t) (hs : starEach (e :: es) X.env = (false, eval e X.env) :: starEach es X.env := by rfl) : PA X (e :: es) (tCons te t) := by
  intro pos pins s σ H Q I h
  rw [hs]
  show wpAny _ _ (spliced ((false, eval e X.env) :: backTo pos (starEach es X.env))) _ _ s
  refine Calls.spliced_cons (thnE (ha pins s σ H _ I h) fun u s1 x H1 I1 r1 q1 => ?_)
  exact thn (hr pos pins s1 σ H1 _ I1 q1) fun us s2 ⟨xs, H2, I2, r2, q2⟩ => ⟨x :: xs, H2, I2, .cons r1 r2, q2⟩
/-- a tuple, a list of written items -/
def tTup (t : TA) : TE := fun σ H Q => t σ H fun xs H1 => xs.length ≤ sizeLine ∧ ∀ p, H1 p = none → Q (.ref p) (upd H1 p (.tup xs))
def tLst (t : TA) : TE := fun σ H Q => t σ H fun xs H1 => xs.length ≤ sizeLine ∧ ∀ p, H1 p = none → Q (.ref p) (upd H1 p (.lst xs))
theorem pe_tup {x1} (h : PA X es t) : PE X (.Tuple es x1 pos) (tTup t) := by
  intro pins s σ H Q I hq
  refine wpAny_Tuple_spliced (thn (h pos pins s σ H _ I hq) fun us s1 ⟨xs, H1, I1, r, z, q⟩ => ⟨by rw [← r.length]; exact z, ?_⟩)
  have hf : H1 s1.heap.objs.size = none := I1.hok.fresh (Nat.le_refl _)
  refine ⟨.ref s1.heap.objs.size, upd H1 s1.heap.objs.size (.tup xs), I1.laid (t' := s1.toks) (fun b u e => Heap.get?_push_of_some _ e) (Nat.le_refl _) ?_, rfl, q _ hf⟩
  exact ⟨z, us, r, ⟨_, Heap.get?_push_size _ rfl, rfl, _, rfl⟩⟩
theorem pe_lst (h : PA X es t) : PE X (.List es pos) (tLst t) := by
  intro pins s σ H Q I hq
  refine wpAny_List_spliced (thn (h pos pins s σ H _ I hq) fun us s1 ⟨xs, H1, I1, r, z, q⟩ => ⟨by rw [← r.length]; exact z, ?_⟩)
  have hf : H1 s1.heap.objs.size = none := I1.hok.fresh (Nat.le_refl _)
  refine ⟨.ref s1.heap.objs.size, upd H1 s1.heap.objs.size (.lst xs), I1.laid (t' := s1.toks) (fun b u e => Heap.get?_push_of_some _ e) (Nat.le_refl _) ?_, rfl, q _ hf⟩
  exact ⟨z, us, 0, r, Heap.get?_push_size _ rfl⟩
end
/-! ### what a def promises -/
/-- a def's promise: the bound arguments in the parameters' order, the heap, the wanted end, the wanted exception -/
abbrev Sp := List V → Hp → VK → XK → Prop
/-- how an exception lies behind a call (file 08 gives it): the callers' frames, abstract heap and state ahead of the call, the wish, the exception, the state -/
abbrev CXT := List Env → Hp → Shared → XK → Value → Shared → Prop
/-- the state at a call -/
structure Env0 (P : Program) (w : World) (K : PySem.W.Frag) (mg : Str → Option Value) (base : Heap) (A : Around) (outer : List Env) (s : Shared) (H : Hp) : Prop where
  frames : A.frames = some outer
  mod : Mod K mg base
  bs : ∀ b o, base.get? b = some o → s.heap.get? b = some o ∧ H b = none
  bsz : base.objs.size ≤ s.heap.objs.size
  funs : s.heap.FunFrames base outer
  frf : ∀ b ∈ frs outer, H b = none
  hok : HOk P w H s.heap
  bare : AllBare s.gens
/-- a call's end -/
def CE (outer : List Env) (P : Program) (w : World) (H : Hp) (s : Shared) (Q : VK) (u : Value) (s' : Shared) : Prop :=
  ∃ v H', s'.os = s.os ∧ AllBare s'.gens ∧ Un (frs outer) [] H H' s.heap s'.heap ∧ HOk P w H' s'.heap ∧ RelV v u ∧ Q v H'
def CR (CX : CXT) (outer : List Env) (P : Program) (w : World) (H : Hp) (s : Shared) (Q : VK) (E : XK) (r : Result) (s' : Shared) : Prop :=
  match r with
  | .ok (.ret u) => CE outer P w H s Q u s'
  | .ok _ => False
  | .error e => CX outer H s E e s'
structure FnOk (P : Program) (w : World) (K : PySem.W.Frag) (mg : Str → Option Value) (base : Heap) (CX : CXT) (k : Nat) (f : Addr) (fd : FuncData) (ps : List Str) (sp : Sp) : Prop where
  len : ∀ vs H Q E, sp vs H Q E → vs.length = ps.length
  run : ∀ (A : Around) (outer : List Env) (s : Shared) (H : Hp) (args : Args) (us : List Value) (vs : List V) (Q : VK) (E : XK), Room k A → Env0 P w K mg base A outer s H → BindsTo s fd args (ps.zip us) → Vals vs us → sp vs H Q E →
    codeAny (model P w) A (.call (.ref f) args) (CR CX outer P w H s Q E) s
theorem Env0.make {P : Program} {w : World} {K : PySem.W.Frag} {mg : Str → Option Value} {base : Heap} {A : Around} {outer : List Env} {s : Shared} {H : Hp} (e : Env0 P w K mg base A outer s H) (C : Addr) (us : List Value) (kw : List (Str × Value)) :
    Env0 P w K mg base (A.under (.builtin "type.__call__" ⟨.ref C :: us, kw⟩)) outer s H := ⟨by first | exact e.frames | (simpa [Around.under, Code.envs, Code.isFrame, pushEnvs] using e.frames), e.mod, e.bs, e.bsz, e.funs, e.frf, e.hok, e.bare⟩
section
variable {X : Cx} {pins : List (Addr × Obj)} {σ : St} {H : Hp} {s s' : Shared}
/-- from a body: what a callee wants -/
theorem Inv.env0 (I : Inv X pins σ H s) : Env0 X.prog X.w X.K X.mg X.base X.A X.stack s H :=
  ⟨I.ok.frames, I.ok.mod, I.bs, Nat.le_trans I.ok.bsz I.sz, I.stack, I.stkFree, I.hok, I.bare⟩
/-- behind a call -/
theorem Inv.after {Q : VK} {u : Value} (I : Inv X pins σ H s) (h : CE X.stack X.prog X.w H s Q u s') : EP X pins σ Q u s' := by
  obtain ⟨v, H', os, bare, un, hok, r, q⟩ := h
  obtain ⟨hh, g, d, t, os'⟩ := s'
  obtain rfl : os' = s.os := os
  exact ⟨v, H', I.call (h' := hh) (g' := g) (d' := d) (t' := t) (ch := []) un hok bare (fun b z => absurd z (by simp)), r, q⟩
end
/-! ### calls -/
/-- f(..): the written arguments, then the defaults dvs; E: what is wanted of an exception -/
def tCall (sp : Sp) (dvs : List V) (E : XK) (t : TA) : TE := fun σ H Q => t σ H fun vs H1 => sp (vs ++ dvs) H1 Q E
/-- o.m(..) of an instance of the class at C -/
def tMeth (C : Addr) (m : Str) (sp : Sp) (dvs : List V) (E : XK) (ta : TE) (t : TA) : TE := fun σ H Q => ta σ H fun x H1 => ∃ a dx fs, x = .ref a ∧ H1 a = some (.ins C dx fs) ∧ fs.lookup m = none ∧
  t σ H1 fun vs H2 => sp (x :: (vs ++ dvs)) H2 Q E
/-- C(..): a new instance and its dict, then __init__ -/
def tMake (C : Addr) (sp : Sp) (dvs : List V) (E : XK) (t : TA) : TE := fun σ H Q => t σ H fun vs H1 => ∀ x dx, H1 x = none → H1 dx = none → dx ≠ x →
  sp (.ref x :: (vs ++ dvs)) (upd (upd H1 dx (.own x)) x (.ins C dx [])) (fun v H2 => v = .non ∧ Q (.ref x) H2) E
/-- how the parameters are bound: us the positional arguments, kw the keywords' values by name, ds the defaults that fill up -/
def Binds (K : PySem.W.Frag) (fd : FuncData) (ps : List Str) (ds : List Value) : Prop :=
  ∀ (s : Shared) (us : List Value), K.In s.heap → (us ++ ds).length = ps.length → BindsTo s fd ⟨us, []⟩ (ps.zip (us ++ ds))
/-- every parameter is given -/
theorem Binds.all {K : PySem.W.Frag} {fd : FuncData} {ps : List Str} (h : ∀ us : List Value, us.length = ps.length → bindArgs fd ⟨us, []⟩ = pure (ps.zip us)) : Binds K fd ps [] := fun s us _ hl => by
  rw [List.append_nil] at hl ⊢
  exact .of_eq (h us hl)
/-- an exception of a callee reaches what this body wants of exceptions -/
def Passes (CX : CXT) (X : Cx) (E : XK) : Prop := ∀ (pins : List (Addr × Obj)) (σ : St) (H : Hp) (s : Shared) (e : Value) (s' : Shared), Inv X pins σ H s → CX X.stack H s E e s' → X.xe e s'
section
variable {X : Cx} {CX : CXT} {k : Nat} {f C : Addr} {fd : FuncData} {ps : List Str} {sp : Sp} {dvs : List V} {ds : List Value} {E : XK} {x m : Str} {p pos apos : Pos} {e o : Expr} {es : List Expr} {ta : TE} {t : TA}
/-- the callee runs -/
theorem run_fn {pins : List (Addr × Obj)} {σ : St} {H : Hp} {s : Shared} {Q : VK} {us : List Value} {vs : List V} (F : FnOk X.prog X.w X.K X.mg X.base CX k f fd ps sp) (hr : Room k X.A) (hb : Binds X.K fd ps ds) (hd : Vals dvs ds) (hx : Passes CX X E)
    (I : Inv X pins σ H s) (r : Vals vs us) (h : sp (vs ++ dvs) H Q E) : wpAny (model X.prog X.w) X.A (call (.ref f) us) (EP X pins σ Q) X.xe s := by
  have r2 : Vals (vs ++ dvs) (us ++ ds) := r.append hd
  have hl : (us ++ ds).length = ps.length := by rw [← r2.length]; exact F.len _ _ _ _ h
  refine wpAny_call (codeAny_mono (F.run X.A X.stack s H ⟨us, []⟩ (us ++ ds) (vs ++ dvs) Q E hr I.env0 (hb s us I.kIn hl) r2 h) fun r s' hq => ?_)
  cases r with
  | error e => exact hx pins σ H s e s' I hq
  | ok fl =>
    cases fl with
    | ret u => exact I.after hq
    | next => exact False.elim hq
    | brk => exact False.elim hq
    | cont => exact False.elim hq
theorem pe_call (F : FnOk X.prog X.w X.K X.mg X.base CX k f fd ps sp) (hr : Room k X.A) (hg : Gl X x) (hm : X.mg x = some (.ref f)) (hk : PySem.W.keepIn X.K (.ref f) = true) (hb : Binds X.K fd ps ds) (hd : Vals dvs ds) (hx : Passes CX X E)
    (ha : PA X (e :: es) t) (hdb : (x == ("__debug__" : Str)) = false := by decide) (he : starEach (e :: es) X.env = (false, eval e X.env) :: starEach es X.env := by rfl) (hpl : (backTo pos (starEach es X.env)).any (·.1) = false := by rfl) :
    PE X (.Call (.Name x p) (e :: es) [] pos) (tCall sp dvs E t) := by
  intro pins s σ H Q I h
  refine wpAny_Call_Name_kw (ld_glob I hg hm ?_ hdb)
  refine PySem.W.callWith_K (h₀ := X.base) I.ok.mod.kin hk (thn (ha pos pins s σ H _ I h) fun us s1 ⟨vs, H1, I1, r, q⟩ => ⟨I1.kIn, ?_⟩) he hpl
  exact run_fn F hr hb hd hx I1 r q
/-- o.m(e, ..) -/
theorem pe_meth {pl : Sem Bool} (he : PE X o ta) (c : Cls X.K C) (hm : Meth X.K C m f) (F : FnOk X.prog X.w X.K X.mg X.base CX k f fd ps sp) (hr : Room k X.A) (hb : Binds X.K fd ps ds) (hd : Vals dvs ds) (hx : Passes CX X E) (ha : PA X (e :: es) t)
    (hst : starEach (e :: es) X.env = (false, eval e X.env) :: starEach es X.env := by rfl) (hpl : (backTo pos (starEach es X.env)).any (·.1) = false := by rfl)
    (ht : eval (.Call (.Attribute o m apos) (e :: es) [] pos) X.env = (do
      let ov ← eval o X.env
      standAt apos.atName
      let (f, first) ← holding [ov] (getMethod ov m pl)
      callWith pos f first (backTo pos (starEach (e :: es) X.env)) (backToKw pos (keywordEach [] X.env))) := by rfl) :
    PE X (.Call (.Attribute o m apos) (e :: es) [] pos) (tMeth C m sp dvs E ta t) := by
  intro pins s σ H Q I h
  refine PySem.W.methodCall_KW (pl := pl) (thn (he pins s σ H _ I h) fun u s1 ⟨x, H1, I1, rx, a, dx, fs, ex, ea, l, q⟩ => ?_) ht
  subst ex
  obtain rfl : u = Value.ref a := rx
  refine getmeth_ok I1 ea c hm l ?_
  refine PySem.W.callWith_K (first := [.ref a]) (h₀ := X.base) I.ok.mod.kin hm.kp (thn (ha pos pins s1 σ H1 _ I1 q) fun us s2 ⟨vs, H2, I2, r, q2⟩ => ⟨I2.kIn, ?_⟩) hst hpl
  exact run_fn (us := .ref a :: us) (vs := .ref a :: vs) F hr hb hd hx I2 (.cons rfl r) q2
/-- o.m() -/
theorem pe_meth0 {pl : Sem Bool} (he : PE X o ta) (c : Cls X.K C) (hm : Meth X.K C m f) (F : FnOk X.prog X.w X.K X.mg X.base CX k f fd ps sp) (hr : Room k X.A) (hb : Binds X.K fd ps ds) (hd : Vals dvs ds) (hx : Passes CX X E)
    (ht : eval (.Call (.Attribute o m apos) [] [] pos) X.env = (do
      let ov ← eval o X.env
      standAt apos.atName
      let (f, first) ← holding [ov] (getMethod ov m pl)
      callWith pos f first (backTo pos (starEach [] X.env)) (backToKw pos (keywordEach [] X.env))) := by rfl) :
    PE X (.Call (.Attribute o m apos) [] [] pos) (tMeth C m sp dvs E ta tNil) := by
  intro pins s σ H Q I h
  refine PySem.W.methodCall_KW (pl := pl) (thn (he pins s σ H _ I h) fun u s1 ⟨x, H1, I1, rx, a, dx, fs, ex, ea, l, q⟩ => ?_) ht
  subst ex
  obtain rfl : u = Value.ref a := rx
  refine getmeth_ok I1 ea c hm l ?_
  exact PySem.W.callWith_K0 (first := [.ref a]) I1.kIn hm.kp (run_fn (us := [.ref a]) (vs := [.ref a]) F hr hb hd hx I1 (.cons rfl .nil) q)
/-- what a class must have to be made -/
structure Mk (K : PySem.W.Frag) (C f : Addr) : Prop where
  makes : PySem.W.makesIn K C = true
  init : PySem.W.findIn K (.ref C) "__init__" = some (some (.ref f))
  fn : PySem.W.isFn K (.ref f) = true
  kp : PySem.W.keepIn K (.ref C) = true
theorem run_make {pins : List (Addr × Obj)} {σ : St} {H : Hp} {s : Shared} {Q : VK} {us : List Value} {vs : List V} (M : Mk X.K C f) (F : FnOk X.prog X.w X.K X.mg X.base CX k f fd ps sp) (hr : Room (k + 1) X.A) (hb : Binds X.K fd ps ds) (hd : Vals dvs ds)
    (hx : Passes CX X E) (I : Inv X pins σ H s) (r : Vals vs us)
    (h : ∀ x dx, H x = none → H dx = none → dx ≠ x → sp (.ref x :: (vs ++ dvs)) (upd (upd H dx (.own x)) x (.ins C dx [])) (fun v H2 => v = .non ∧ Q (.ref x) H2) E) :
    wpAny (model X.prog X.w) X.A (call (.ref C) us) (EP X pins σ Q) X.xe s := by
  have hq := h (s.heap.objs.size + 1) s.heap.objs.size (I.hok.fresh (Nat.le_succ _)) (I.hok.fresh (Nat.le_refl _)) (Nat.ne_of_lt (Nat.lt_succ_self _))
  have I2 := Inv.made (C := C) I
  have r2 : Vals (V.ref (s.heap.objs.size + 1) :: (vs ++ dvs)) (Value.ref (s.heap.objs.size + 1) :: (us ++ ds)) := .cons rfl (r.append hd)
  have hl : (Value.ref (s.heap.objs.size + 1) :: us ++ ds).length = ps.length := by
    have e := r2.length
    rw [F.len _ _ _ _ hq] at e
    exact e.symm
  refine wpAny_call (make_map (f := f) I.kIn M.makes M.init (beq_iff_eq.mp M.fn) (codeAny_mono (F.run _ X.stack _ _ ⟨Value.ref (s.heap.objs.size + 1) :: us, []⟩ (Value.ref (s.heap.objs.size + 1) :: (us ++ ds)) _ _ E (hr.make C us [])
    (I2.env0.make C us []) (hb _ (Value.ref (s.heap.objs.size + 1) :: us) I2.kIn hl) r2 hq) fun r s' hq' => ?_))
  cases r with
  | error e => exact hx pins σ _ _ e s' I2 hq'
  | ok fl =>
    cases fl with
    | ret u =>
      obtain ⟨v, H', I3, rv, ev, q3⟩ := I2.after hq'
      subst ev
      exact ⟨rv, ⟨V.ref (s.heap.objs.size + 1), H', I3, rfl, q3⟩⟩
    | next => exact False.elim hq'
    | brk => exact False.elim hq'
    | cont => exact False.elim hq'
theorem pe_make (M : Mk X.K C f) (F : FnOk X.prog X.w X.K X.mg X.base CX k f fd ps sp) (hr : Room (k + 1) X.A) (hg : Gl X x) (hm : X.mg x = some (.ref C)) (hb : Binds X.K fd ps ds) (hd : Vals dvs ds) (hx : Passes CX X E)
    (ha : PA X (e :: es) t) (hdb : (x == ("__debug__" : Str)) = false := by decide) (he : starEach (e :: es) X.env = (false, eval e X.env) :: starEach es X.env := by rfl) (hpl : (backTo pos (starEach es X.env)).any (·.1) = false := by rfl) :
    PE X (.Call (.Name x p) (e :: es) [] pos) (tMake C sp dvs E t) := by
  intro pins s σ H Q I h
  refine wpAny_Call_Name_kw (ld_glob I hg hm ?_ hdb)
  refine PySem.W.callWith_K (h₀ := X.base) I.ok.mod.kin M.kp (thn (ha pos pins s σ H _ I h) fun us s1 ⟨vs, H1, I1, r, q⟩ => ⟨I1.kIn, ?_⟩) he hpl
  exact run_make M F hr hb hd hx I1 r q
end
/-! ### keywords -/
section
variable {X : Cx} {CX : CXT} {k : Nat} {f C : Addr} {fd : FuncData} {ps ks : List Str} {sp : Sp} {E : XK} {x m : Str} {p pos apos kpos : Pos} {e o : Expr} {es : List Expr} {kws : List Keyword} {te ta : TE} {t tk : TA} {nm : Option Str}
variable {g : List Value → List Value → List Value} {gV : List V → List V → List V}
end
/-! ### a def's body keeps its promise -/
/-- names: the parameters first -/
structure FnScope (N P : List Str) (sc : Scope) : Prop where
  kind : sc.kind = .function
  co : sc.isCoroutine = false
  gen : sc.isGenerator = false
  nd : N.Nodup
  pre : N.take P.length = P
  par : ∀ x ∈ P, sc.names.lookup x = some .local ∨ sc.names.lookup x = some .cell
  nofree : ∀ y ∈ sc.names, y.2 ≠ .free
theorem bindL_out {kindOf : Str → Option NameKind} {x : Str} : ∀ {binds : List (Str × Value)} {m : Str → Option Value}, (∀ v, (x, v) ∉ binds) → bindL kindOf binds m x = m x
  | [], _, _ => rfl
  | (n, v) :: r, m, h => by
    unfold bindL
    rw [bindL_out fun w hw => h w (List.mem_cons_of_mem _ hw)]
    split
    · have : x ≠ n := by rintro rfl; exact h v List.mem_cons_self
      simp [this]
    · rfl
theorem bindC_out {kindOf : Str → Option NameKind} {x : Str} : ∀ {binds : List (Str × Value)} {m : Str → Option Value}, (∀ v, (x, v) ∉ binds) → bindC kindOf binds m x = m x
  | [], _, _ => rfl
  | (n, v) :: r, m, h => by
    unfold bindC
    rw [bindC_out fun w hw => h w (List.mem_cons_of_mem _ hw)]
    split
    · rfl
    · have : x ≠ n := by rintro rfl; exact h v List.mem_cons_self
      simp [this]
theorem bindL_get {kindOf : Str → Option NameKind} {x : Str} {v : Value} : ∀ {P : List Str} {vs : List Value} {i : Nat} {m : Str → Option Value}, P.Nodup → P[i]? = some x → vs[i]? = some v → kindOf x = some .local →
    bindL kindOf (P.zip vs) m x = some v
  | [], _, _, _, _, h, _, _ => by simp at h
  | _ :: _, [], _, _, _, _, h, _ => by simp at h
  | p :: P, w :: vs, 0, m, nd, h1, h2, hk => by
    simp at h1 h2; subst h1; subst h2
    show bindL kindOf ((p, w) :: P.zip vs) m p = _
    unfold bindL
    rw [bindL_out fun v hv => (List.nodup_cons.mp nd).1 (List.of_mem_zip hv).1, if_pos hk]
    simp
  | p :: P, w :: vs, i + 1, m, nd, h1, h2, hk => by
    show bindL kindOf ((p, w) :: P.zip vs) m x = _
    unfold bindL
    exact bindL_get (i := i) (List.nodup_cons.mp nd).2 (by simpa using h1) (by simpa using h2) hk
theorem bindC_get {kindOf : Str → Option NameKind} {x : Str} {v : Value} : ∀ {P : List Str} {vs : List Value} {i : Nat} {m : Str → Option Value}, P.Nodup → P[i]? = some x → vs[i]? = some v → kindOf x ≠ some .local →
    bindC kindOf (P.zip vs) m x = some v
  | [], _, _, _, _, h, _, _ => by simp at h
  | _ :: _, [], _, _, _, _, h, _ => by simp at h
  | p :: P, w :: vs, 0, m, nd, h1, h2, hk => by
    simp at h1 h2; subst h1; subst h2
    show bindC kindOf ((p, w) :: P.zip vs) m p = _
    unfold bindC
    rw [bindC_out fun v hv => (List.nodup_cons.mp nd).1 (List.of_mem_zip hv).1, if_neg hk]
    simp
  | p :: P, w :: vs, i + 1, m, nd, h1, h2, hk => by
    show bindC kindOf ((p, w) :: P.zip vs) m x = _
    unfold bindC
    exact bindC_get (i := i) (List.nodup_cons.mp nd).2 (by simpa using h1) (by simpa using h2) hk
/-- the names' values at the entry -/
def start (N : List Str) (vs : List V) : St := vs.map some ++ List.replicate (N.length - vs.length) none
/-- the context of a def's body, at its entry; an exception leaves the frame, then lies as CX says -/
def cxOf (CX : CXT) (P : Program) (w : World) (K : PySem.W.Frag) (mg : Str → Option Value) (base : Heap) (N : List Str) (qual : Str) (scope : Scope) (f : Addr) (cd : Value) (A : Around) (outer : List Env) (s : Shared) (H : Hp) (E : XK) : Cx where
  prog := P
  w := w
  K := K
  mg := mg
  base := base
  A := A.deeper (envOfC qual scope s.heap.objs.size f cd)
  N := N
  s₀ := s
  H₀ := H
  env := envOfC qual scope s.heap.objs.size f cd
  outer := outer
  stack := envOfC qual scope s.heap.objs.size f cd :: outer
  ex := []
  calm := true
  fn := fun _ => true
  pn := []
  xe := fun e s' => wpAny (model P w) (A.deeper (envOfC qual scope s.heap.objs.size f cd)) (leaving (envOfC qual scope s.heap.objs.size f cd) e) (fun _ s'' => CX outer H s E e s'') (fun e' s'' => CX outer H s E e' s'') s'
theorem cell_has {sc : Scope} {n : Nat} {x : Str} (h : sc.names.lookup x = some .cell) : ∃ c, (cellsFrom n sc.names []).lookup x = some c := by
  have q := PySem.W.cellsFrom_some sc.names n [] (.inl h)
  exact Option.isSome_iff_exists.mp q
theorem inv_start {CX : CXT} {P : Program} {w : World} {K : PySem.W.Frag} {mg : Str → Option Value} {base : Heap} {N ps : List Str} {qual : Str} {scope : Scope} {f : Addr} {cd : Value} {A : Around} {outer : List Env} {s s1 : Shared} {H : Hp} {E : XK} {us : List Value} {vs : List V}
    (S : FnScope N ps scope) (hd : A.handled = none) (e0 : Env0 P w K mg base A outer s H) (hl : vs.length = ps.length) (r : Vals vs us)
    (x : InCallC s s.heap.objs.size (bindL (envOfC qual scope s.heap.objs.size f cd).kindOf (ps.zip us) fun _ => none) (cellsFrom (s.heap.objs.size + 1) scope.names []) (bindC (envOfC qual scope s.heap.objs.size f cd).kindOf (ps.zip us) fun _ => none) s1) :
    Inv (cxOf CX P w K mg base N qual scope f cd A outer s H E) [] (start N vs) H s1 := by
  have hpl : ps.length ≤ N.length := by have := congrArg List.length S.pre; rw [List.length_take] at this; omega
  obtain ⟨h1, tk, rfl, hk⟩ := x.done
  have noA : ∀ b : Addr, b ∉ (cxOf CX P w K mg base N qual scope f cd A outer s H E).ex := fun b z => absurd (show b ∈ ([] : List Addr) from z) (by simp)
  refine ⟨⟨e0.mod, S.kind, rfl, rfl, Nat.le_refl _, fun y z c h1 h2 => ?_, fun y hy => ?_, fun y c _ h => ?_, fun _ => hd, Around.frames_deeper e0.frames, .inr ⟨rfl, rfl⟩, fun b z => absurd z (noA b), e0.bs, e0.bsz, fun b _ _ => noA b, fun b z => absurd z (noA b), e0.funs, e0.frf⟩,
    rfl, e0.bare, Un.kept hk, ⟨_, x.toInCall.ns, fun i y v h1 h2 h3 => ?_⟩, fun y c h => ⟨_, x.cell y c h⟩, e0.hok.fresh (Nat.le_refl _), fun y c h => ?_, fun p hp => absurd (show p ∈ ([] : List (Addr × Obj)) from hp) (by simp), e0.hok.kept hk, ?_⟩
  · exact name_of_addr x.apart (PySem.mem_of_lookup h1) (PySem.mem_of_lookup h2)
  · have hy : scope.names.lookup y = some .cell ∨ scope.names.lookup y = some .free := hy
    rcases hy with hy | hy
    · exact cell_has hy
    · exact absurd rfl (S.nofree _ (PySem.mem_of_lookup hy))
  · exact Nat.le_of_lt (x.above y c (PySem.mem_of_lookup h))
  · have hi : i < vs.length := by
      unfold start at h2
      by_cases hi : i < vs.length
      · exact hi
      · rw [List.getElem?_append_right (by simpa using hi)] at h2
        rw [List.getElem?_replicate] at h2
        split at h2 <;> cases h2
    have ha : vs[i]? = some v := by
      unfold start at h2
      rw [List.getElem?_append_left (by simpa using hi), List.getElem?_map] at h2
      cases e : vs[i]? with
      | none => rw [e] at h2; cases h2
      | some a => rw [e] at h2; cases h2; rfl
    obtain ⟨u, hu, rv⟩ := r.get ha
    have hp : ps[i]? = some y := by
      rw [← S.pre, List.getElem?_take_of_lt (by omega)]; exact h1
    have ndP : ps.Nodup := by rw [← S.pre]; exact S.nd.sublist (List.take_sublist _ _)
    refine ⟨u, rv, ?_⟩
    rcases S.par y (List.mem_of_getElem? hp) with k | k
    · exact .inl ⟨k, bindL_get ndP hp hu k⟩
    · obtain ⟨c, e⟩ := cell_has (n := s.heap.objs.size + 1) k
      refine .inr ⟨.inl k, c, e, ?_⟩
      have q := x.cell y c e
      rw [bindC_get ndP hp hu (by show scope.names.lookup y ≠ _; rw [k]; decide)] at q
      exact q
  · exact e0.hok.fresh (Nat.le_of_lt (x.above y c (PySem.mem_of_lookup h)))
  · unfold start
    show _ = N.length
    rw [List.length_append, List.length_map, List.length_replicate]
    omega
/-- THE RULE: a def (or a method) of the text, by its body. The body's reading t is chosen for each entry; it is run at the parameters' values -/
theorem fn_of {CX : CXT} {P : Program} {w : World} {K : PySem.W.Frag} {mg : Str → Option Value} {base : Heap} {k : Nat} {f : Addr} {name qual : Str} {params : Arguments} {body : List Stmt} {scope : Scope} {dV kV doc pm cdv ct oc : Value} {an od : Option Addr}
    {osl : Array (Option Value)} {N ps : List Str} {sp : Sp} (lk : K.lookup f = some ⟨oc, od, .func (PySem.W.fnOf name qual params body scope dV kV doc pm an cdv ct), osl⟩) (hcd : PySem.W.codeIn K cdv qual = true) (S : FnScope N ps scope)
    (len : ∀ vs H Q E, sp vs H Q E → vs.length = ps.length)
    (hbody : ∀ (A : Around) (outer : List Env) (s : Shared) (H : Hp) (vs : List V) (Q : VK) (E : XK), Room k (A.deeper (envOfC qual scope s.heap.objs.size f cdv)) → sp vs H Q E →
      ∃ t, PSs (cxOf CX P w K mg base N qual scope f cdv A outer s H E) body t ∧ t { nx := fun _ H' => Q .non H', rt := Q } (start N vs) H) :
    FnOk P w K mg base CX (k + 1) f (PySem.W.fnOf name qual params body scope dV kV doc pm an cdv ct) ps sp := by
  refine ⟨len, fun A outer s H args us vs Q E hr e0 hb r hsp => ?_⟩
  have hl := len _ _ _ _ hsp
  have KX : K.In s.heap := e0.mod.kin.keeps fun b o e => (e0.bs b o e).1
  have lim : s.heap.NoLimit := e0.mod.nolimit.keeps fun b o e => (e0.bs b o e).1
  have hkind : ∀ y ∈ ps.zip us, scope.names.lookup y.1 = some .local ∨ (scope.names.lookup y.1 = some .cell ∧ ((cellsFrom (s.heap.objs.size + 1) scope.names []).lookup y.1).isSome = true) := fun ⟨n, v⟩ hy => by
    rcases S.par n (List.of_mem_zip hy).1 with q | q
    · exact .inl q
    · exact .inr ⟨q, PySem.W.cellsFrom_some _ _ _ (.inl q)⟩
  refine codeAny_call_function hr.depth (KX _ _ lk) rfl S.co S.gen rfl (PySem.W.codeRec_of KX hcd) (hb _ _ _ _ ?_)
  refine wpAny_newFunctionEnv_cells S.kind hkind fun env he s1 x => ?_
  subst he
  refine ⟨lim.keeps x.toInCall.keep, codeAny_func ?_⟩
  obtain ⟨t, ht, hq⟩ := hbody A outer s H vs Q E (hr.deeper _) hsp
  have I : Inv (cxOf CX P w K mg base N qual scope f cdv A outer s H E) [] (start N vs) H s1 := inv_start S hr.hd e0 hl r x
  refine wpAny_mono (ht [] s1 (start N vs) H _ I hq) (fun fl s' hs => ?_) fun e s' hs => hs
  have fin : ∀ {σ' : St} {H' : Hp} {v : V} {u : Value}, Inv (cxOf CX P w K mg base N qual scope f cdv A outer s H E) [] σ' H' s' → RelV v u → Q v H' → CE outer P w H s Q u s' :=
    fun {σ' H' v u} J rv q => ⟨v, H', J.os, J.bare, J.base, J.hok, rv, q⟩
  cases fl with
  | ret u =>
    obtain ⟨v, σ', H', J, rv, q⟩ := hs
    exact fin J rv q
  | next =>
    obtain ⟨σ', H', J, q⟩ := hs
    exact fin (v := V.non) (u := Value.none) J rfl q
  | brk =>
    obtain ⟨_, _, _, q⟩ := hs
    exact False.elim q
  | cont =>
    obtain ⟨_, _, _, q⟩ := hs
    exact False.elim q
end L2
namespace L2
open PySem PySem.Spec PyProof.Rows
section
variable {X : Cx} {x : Str} {p pos : Pos} {e : Expr} {es : List Expr} {t : TA} {id T : String} {r : List V → Hp → VK → Prop}
def tCB (r : List V → Hp → VK → Prop) (t : TA) : TE := fun σ H Q => t σ H fun vs H1 => r vs H1 Q
/-- f(e, ..), f a built-in function -/
theorem pe_callB (hc : CallR X (.builtin id) r) (hg : Gl X x) (hm : X.mg x = none) (hv : bootBuiltins x = some (.builtin id)) (ha : PA X (e :: es) t) (hn : x ≠ "__name__" := by decide) (hdb : (x == ("__debug__" : Str)) = false := by decide)
    (he : starEach (e :: es) X.env = (false, eval e X.env) :: starEach es X.env := by rfl) (hpl : (backTo pos (starEach es X.env)).any (·.1) = false := by rfl) : PE X (.Call (.Name x p) (e :: es) [] pos) (tCB r t) := by
  intro pins s σ H Q I h
  refine wpAny_Call_Name_kw (ld_blt I hg hm hv ?_ hn hdb)
  exact PyProof.Rows.callWith_builtin1 (thn (ha pos pins s σ H _ I h) fun us s1 ⟨vs, H1, I1, r1, q1⟩ => hc pins s1 σ H1 vs us Q I1 r1 q1) he hpl
/-- T(e, ..), T a built-in type -/
theorem pe_callTy (hc : CallR X (.type T) r) (hg : Gl X x) (hm : X.mg x = none) (hv : bootBuiltins x = some (.type T)) (ha : PA X (e :: es) t) (hn : x ≠ "__name__" := by decide) (hdb : (x == ("__debug__" : Str)) = false := by decide)
    (he : starEach (e :: es) X.env = (false, eval e X.env) :: starEach es X.env := by rfl) (hpl : (backTo pos (starEach es X.env)).any (·.1) = false := by rfl) : PE X (.Call (.Name x p) (e :: es) [] pos) (tCB r t) := by
  intro pins s σ H Q I h
  refine wpAny_Call_Name_kw (ld_blt I hg hm hv ?_ hn hdb)
  exact PyProof.Rows.callWith_type1 (thn (ha pos pins s σ H _ I h) fun us s1 ⟨vs, H1, I1, r1, q1⟩ => hc pins s1 σ H1 vs us Q I1 r1 q1) he hpl
end
end L2
namespace HT
open PySem PyProof.Rows
section
open PySem.SeqAt
open PySem.AutoSeq1 (wpAny_loadPart')
open PySem.MeetsSeq PySem.MeetsSeq2 PySem.MeetsSeq3
end
section
variable {prog : Program} {w : World} {A : Around} {E : Value → Shared → Prop} {s : Shared}
/-! ### t[a:b], not the whole -/
/-- a slice's bound as a place among n (d where it is left out) -/
def sIx (n d : Nat) : Option Int → Nat
  | none => d
  | some v => if v < 0 then (v + (n : Int)).toNat else min v.toNat n
theorem sIx_le (n d : Nat) (hd : d ≤ n) (o : Option Int) : sIx n d o ≤ n := by
  cases o with
  | none => exact hd
  | some v =>
    show (if v < 0 then (v + (n : Int)).toNat else min v.toNat n) ≤ n
    by_cases hv : v < 0
    · rw [if_pos hv]; omega
    · rw [if_neg hv]; exact Nat.min_le_right _ _
theorem clip_eq (v : Int) (n d : Nat) : (if v < 0 then max (v + (n : Int)) 0 else min v (n : Int)) = ((sIx n d (some v) : Nat) : Int) := by
  show (if v < 0 then max (v + (n : Int)) 0 else min v (n : Int)) = (((if v < 0 then (v + (n : Int)).toNat else min v.toNat n) : Nat) : Int)
  by_cases hv : v < 0
  · simp only [if_pos hv]; omega
  · simp only [if_neg hv]; omega
theorem adjust_gen (lo hi : Option Int) (n : Nat) : Builtin.Slice.sliceAdjust lo hi 1 (n : Int) = (((sIx n 0 lo : Nat) : Int), ((sIx n n hi : Nat) : Int)) := by
  have h1 : ¬ ((1 : Int) < 0) := by omega
  unfold Builtin.Slice.sliceAdjust
  simp only [h1, if_false]
  refine Prod.ext ?_ ?_
  · cases lo with
    | none => rfl
    | some v => exact clip_eq v n 0
  · cases hi with
    | none => rfl
    | some v => exact clip_eq v n n
theorem places_gen (i j : Nat) : Builtin.Slice.slicePlaces (i : Int) (j : Int) 1 = j - i := by
  unfold Builtin.Slice.slicePlaces
  have h1 : (1 : Int) > 0 := by omega
  simp only [h1, if_true, Int.ediv_one]
  split <;> omega
theorem slicePart_ {v : Value} {o : Option Int} {Q : Option Int → Shared → Prop} (p : IsPart v o) (h : Q o s) : wpAny (model prog w) A (Builtin.Slice.slicePartIndex v) Q E s := by
  cases p with
  | none => exact slicePart_none h
  | int i t => exact slicePart_int h
theorem sliceApplied_gen {sl : Addr} {vl vu : Value} {lo hi : Option Int} {n : Nat} {Q : Int × Int × Nat → Shared → Prop} (hs : s.heap.IsSliceOf sl vl vu .none) (pl : IsPart vl lo) (pu : IsPart vu hi)
    (h : Q (((sIx n 0 lo : Nat) : Int), 1, sIx n n hi - sIx n 0 lo) s) : wpAny (model prog w) A (Builtin.Slice.sliceApplied (.ref sl) (pure (n : Int))) Q E s := by
  obtain ⟨os, hos, hcs, hds⟩ := id hs
  unfold Builtin.Slice.sliceApplied Builtin.Slice.sliceFields
  refine wpAny_bind (wpAny_bind (wpAny_field hos hds (x := vl) rfl (wpAny_bind (wpAny_field hos hds (x := vu) rfl (wpAny_bind (wpAny_field hos hds (x := .none) rfl (wpAny_pure ?_)))))))
  refine wpAny_bind (slicePart_none ?_)
  show wpAny _ _ (if ((1 : Int) == 0) = true then _ else _) _ _ s
  rw [if_neg (by decide)]
  refine wpAny_bind (slicePart_ pl (wpAny_bind (slicePart_ pu (wpAny_bind (wpAny_pure ?_)))))
  show wpAny _ _ (match Builtin.Slice.sliceAdjust lo hi 1 (n : Int) with | (lo, hi) => pure (lo, (1 : Int), Builtin.Slice.slicePlaces lo hi 1)) _ _ s
  rw [adjust_gen lo hi n]
  show wpAny _ _ (pure (((sIx n 0 lo : Nat) : Int), (1 : Int), Builtin.Slice.slicePlaces ((sIx n 0 lo : Nat) : Int) ((sIx n n hi : Nat) : Int) 1)) _ _ s
  rw [places_gen]
  exact wpAny_pure h
theorem pick_gen (xs : Array Value) (i k : Nat) : ((List.range k).filterMap fun (m : Nat) => xs[((i : Int) + (m : Int) * 1).toNat]?).toArray = ((xs.toList.drop i).take k).toArray := by
  have e : (fun (m : Nat) => xs[((i : Int) + (m : Int) * 1).toNat]?) = fun m => xs[i + m]? := by
    funext m
    have : ((i : Int) + (m : Int) * 1).toNat = i + m := by omega
    rw [this]
  rw [e]
  have := pick_run xs i k
  rw [List.filterMap_map] at this
  have e2 : ((fun x => xs[x]?) ∘ fun x => i + x) = fun m => xs[i + m]? := rfl
  rw [e2] at this
  rw [this]
theorem getItem_tuple_cut {t sl : Addr} {items : Array Value} {vl vu : Value} {lo hi : Option Int} {Q : Value → Shared → Prop} (ht : IsTup s.heap t items) (hs : s.heap.IsSliceOf sl vl vu .none) (pl : IsPart vl lo) (pu : IsPart vu hi)
    (hw : ¬ (sIx items.size 0 lo = 0 ∧ sIx items.size items.size hi = items.size))
    (h : Q (.ref s.heap.objs.size) { s with heap := s.heap.push { cls := .type "tuple", data := .seq ((items.toList.drop (sIx items.size 0 lo)).take (sIx items.size items.size hi - sIx items.size 0 lo)).toArray } })
    (hsz : items.size ≤ sizeLine) : wpAny (model prog w) A (getItem (.ref t) (.ref sl)) Q E s := by
  have htake : sizeOk (.seq ((items.toList.drop (sIx items.size 0 lo)).take (sIx items.size items.size hi - sIx items.size 0 lo)).toArray) := by
    show ((items.toList.drop (sIx items.size 0 lo)).take (sIx items.size items.size hi - sIx items.size 0 lo)).toArray.size ≤ sizeLine
    rw [List.size_toArray, List.length_take, List.length_drop, Array.length_toList]
    omega
  have hj : sIx items.size items.size hi ≤ items.size := sIx_le _ _ (Nat.le_refl _) hi
  obtain ⟨os, hos, hcs, hds⟩ := id hs
  have hTs : s.TypeIs (.ref sl) "slice" := ⟨os, hos, hcs⟩
  unfold getItem
  try with_reducible refine wpAny_holding ?_
  first | refine wpAny_bind (wpAny_pure ?_) | skip
  refine wpAny_bind (wpAny_sequenceKey ht.typeIs (by decide) ?_)
  refine wpAny_bind (wpAny_callSpecial?_slot (name := Str.ofString "__getitem__") ht.typeIs PyProof.Rows.slot_tuple_getitem
    (wpAny_call_entry PyProof.Rows.slot_tuple_getitem ht.typeIs entry_tuple_getitem ?_ (args_tuple_getitem _ _)))
  show wpAny _ _ (Builtin.Tuple.tupleItemsOf (.ref t) >>= _) _ _ s
  refine wpAny_bind (tupleItemsOf_ ht ?_)
  refine wpAny_bind (wpAny_typeOf hTs ?_)
  rw [if_pos (by decide)]
  refine wpAny_bind (sliceApplied_gen hs pl pu ?_)
  have hno : ¬ ((((sIx items.size 0 lo : Nat) : Int) == 0 && (1 : Int) == 1 && (sIx items.size items.size hi - sIx items.size 0 lo) == items.size) = true) := by
    intro q
    rw [Bool.and_eq_true, Bool.and_eq_true] at q
    have q1 : ((sIx items.size 0 lo : Nat) : Int) = 0 := eq_of_beq q.1.1
    have q2 : sIx items.size items.size hi - sIx items.size 0 lo = items.size := eq_of_beq q.2
    exact hw ⟨by omega, by omega⟩
  show wpAny _ _ (if (((sIx items.size 0 lo : Nat) : Int) == 0 && (1 : Int) == 1 && (sIx items.size items.size hi - sIx items.size 0 lo) == items.size) = true then _ else _) _ _ s
  rw [if_neg hno, pick_gen]
  first
    | exact wpAny_bind (m := Builtin.Tuple.tupleExact _) (wpAny_newObj_type (wpAny_pure ⟨_, rfl, wpAny_pure h⟩) htake)
    | exact wpAny_bind (m := Builtin.Tuple.tupleExact _) (wpAny_newObj_type (wpAny_bind (wpAny_pure (wpAny_pure ⟨_, rfl, wpAny_pure h⟩))) htake)
    | exact wpAny_bind (wpAny_bind (m := Builtin.Tuple.tupleExact _) (wpAny_newObj_type (wpAny_pure (wpAny_pure ⟨_, rfl, wpAny_pure h⟩)) htake))
    | exact wpAny_bind (wpAny_bind (m := Builtin.Tuple.tupleExact _) (wpAny_newObj_type (wpAny_pure ⟨_, rfl, wpAny_pure h⟩) htake))
end
end HT
namespace L2
open PySem PySem.Spec PyProof.Rows
/-! ### the parts of a slice -/
abbrev TO := St → Hp → (Option Int → Hp → Prop) → Prop
/-- a slice's part (left out, or an int) -/
def PO (X : Cx) (e : Option Expr) (t : TO) : Prop :=
  ∀ (pins : List (Addr × Obj)) (s : Shared) (σ : St) (H : Hp) (Q : Option Int → Hp → Prop), Inv X pins σ H s → t σ H Q →
    wpAny (model X.prog X.w) X.A (evalPart e X.env) (fun u s' => ∃ o H', Inv X pins σ H' s' ∧ IsPart u o ∧ Q o H') X.xe s
def tNoPart : TO := fun _ H Q => Q none H
def tPart (t : TE) : TO := fun σ H Q => t σ H fun x H1 => ∃ i, x = .int i ∧ Q (some i) H1
theorem intsAre_of {ns : List Int} : ∀ {us : List Value}, Vals (ns.map V.int) us → IntsAre us ns := by
  induction ns with
  | nil => intro us r; rw [List.map_nil] at r; cases r; exact .nil
  | cons n ns ih =>
    intro us r
    rw [List.map_cons] at r
    cases r with
    | cons r1 r2 =>
      obtain ⟨t, e⟩ := r1
      subst e
      exact .cons n t (ih r2)
section
variable {X : Cx} {e : Expr} {te : TE} {lo hi : Option Expr} {tl th : TO} {pos p2 : Pos}
theorem po_none : PO X none tNoPart := by
  intro pins s σ H Q I h
  rw [evalPart_none]
  exact wpAny_pure ⟨none, H, I, .none, h⟩
theorem po_some (h : PE X e te) : PO X (some e) (tPart te) := by
  intro pins s σ H Q I hw
  rw [evalPart_some]
  refine thnE (h pins s σ H _ I hw) fun u s1 x H1 I1 r1 q1 => ?_
  obtain ⟨i, rfl, q⟩ := q1
  obtain ⟨t, rfl⟩ := r1
  exact ⟨some i, H1, I1, .int i t, q⟩
/-- what a slice of a value is, by values: the slice object stands at sl -/
def SlR (X : Cx) (r : V → Option Int → Option Int → Hp → VK → Prop) : Prop :=
  ∀ (pins : List (Addr × Obj)) (s : Shared) (σ : St) (H : Hp) (x : V) (v vl vu : Value) (lo hi : Option Int) (sl : Addr) (Q : VK), Inv X pins σ H s → RelV x v → s.heap.IsSliceOf sl vl vu .none → IsPart vl lo → IsPart vu hi → r x lo hi H Q →
    ∃ T id, typeLookup (.type T) "__getitem__" = pure (some (.builtin id)) ∧ s.TypeIs v T ∧ wpAny (model X.prog X.w) X.A (getItem v (.ref sl)) (EP X pins σ Q) X.xe s
def tSl (r : V → Option Int → Option Int → Hp → VK → Prop) (te : TE) (tl th : TO) : TE := fun σ H Q => te σ H fun x H1 => tl σ H1 fun l H2 => th σ H2 fun u H3 => r x l u H3 Q
/-- a[lo:hi], any a -/
theorem pe_slice {r : V → Option Int → Option Int → Hp → VK → Prop} (hr : SlR X r) (he : PE X e te) (hl : PO X lo tl) (hu : PO X hi th) : PE X (.Subscript e (.Slice lo hi none p2) pos) (tSl r te tl th) := by
  intro pins s σ H Q I h
  refine Subscript_ (thnE (he pins s σ H _ I h) fun v s1 x H1 I1 r1 q1 => ?_)
  refine wpAny_Slice (thn (hl pins s1 σ H1 _ I1 q1) fun vl s2 ⟨l, H2, I2, pl, q2⟩ => thn (hu pins s2 σ H2 _ I2 q2) fun vu s3 ⟨u, H3, I3, pu, q3⟩ => ?_)
  rw [evalPart_none]
  refine wpAny_pure ?_
  have I4 : Inv X pins σ H3 { s3 with heap := s3.heap.push { cls := .type "slice", data := .fields #[vl, vu, .none] } } := I3.kept (t' := s3.toks) fun b ob q => Heap.get?_push_of_some _ q
  obtain ⟨T, id, hT, ht, hg⟩ := hr pins { s3 with heap := s3.heap.push { cls := .type "slice", data := .fields #[vl, vu, .none] } } σ H3 x v vl vu l u s3.heap.objs.size Q I4 r1 (Heap.IsSliceOf.new ..) pl pu q3
  show wpAny (model X.prog X.w) X.A (subscriptTail e (.Slice lo hi none p2) v (.ref s3.heap.objs.size)) (EP X pins σ Q) X.xe { s3 with heap := s3.heap.push { cls := .type "slice", data := .fields #[vl, vu, .none] } }
  exact tail_any (ops := [.ref s3.heap.objs.size, v]) ht hT hg (by with_unfolding_all rfl)
/-- the items of xs[lo:hi] -/
def cutV (xs : List V) (lo hi : Option Int) : List V := (xs.drop (HT.sIx xs.length 0 lo)).take (HT.sIx xs.length xs.length hi - HT.sIx xs.length 0 lo)
theorem cutV_length (xs : List V) (lo hi : Option Int) : (cutV xs lo hi).length ≤ xs.length := by
  unfold cutV
  rw [List.length_take, List.length_drop]
  omega
/-- t[lo:hi], not the whole of it (the whole would be t itself) -/
def rSlT (K : PySem.W.Frag) : V → Option Int → Option Int → Hp → VK → Prop := fun x lo hi H Q => ∃ a xs, x = .ref a ∧ SqT K H a xs ∧
  ¬ (HT.sIx xs.length 0 lo = 0 ∧ HT.sIx xs.length xs.length hi = xs.length) ∧ ∀ p, H p = none → Q (.ref p) (upd H p (.tup (cutV xs lo hi)))
theorem sl_tup : SlR X (rSlT X.K) := by
  intro pins s σ H x v vl vu lo hi sl Q I rx hs pl pu h
  obtain ⟨a, xs, rfl, hx, hw, q⟩ := h
  cases rx
  obtain ⟨its, r, ht, hz⟩ := I.tuple hx
  have hlen : its.toArray.size = xs.length := by rw [List.size_toArray]; exact r.length.symm
  refine ⟨"tuple", _, PyProof.Rows.slot_tuple_getitem.lookup, ht.typeIs, ?_⟩
  refine HT.getItem_tuple_cut ht hs pl pu (by rw [hlen]; exact hw) ?_ (by rw [hlen]; exact hz)
  rw [hlen]
  refine ⟨.ref s.heap.objs.size, _, I.laid (t' := s.toks) (o := .tup (cutV xs lo hi)) (fun b ob q => Heap.get?_push_of_some _ q) (Nat.le_refl _) ?_, rfl, q _ (I.hok.fresh (Nat.le_refl _))⟩
  exact ⟨Nat.le_trans (cutV_length xs lo hi) hz, _, (r.drop (HT.sIx xs.length 0 lo)).take (HT.sIx xs.length xs.length hi - HT.sIx xs.length 0 lo), IsTup.new _ _⟩
/-! ### t < u, t + u -/
end
end L2
namespace L2
open PySem PySem.Spec PyProof.Rows
/-! ### places -/
/-- the place that an index of any sign means -/
def ixN (n : Nat) (i : Int) : Option Nat := if 0 ≤ i then (if i < n then some i.toNat else none) else if -(n : Int) ≤ i then some (i + n).toNat else none
def atI {α : Type} (xs : List α) (i : Int) : Option α := (ixN xs.length i).bind fun j => xs[j]?
theorem ixN_seq {n : Nat} {i : Int} {j : Nat} (h : ixN n i = some j) : seqIndex? i n = some j ∧ j < n ∧ -(n : Int) ≤ i ∧ i < n := by
  unfold ixN at h
  by_cases h0 : 0 ≤ i
  · rw [if_pos h0] at h
    by_cases h1 : i < n
    · rw [if_pos h1] at h
      have e : i.toNat = j := Option.some.inj h
      exact ⟨by rw [seqIndex_of h0 h1, e], by omega, by omega, h1⟩
    · rw [if_neg h1] at h; cases h
  · rw [if_neg h0] at h
    by_cases h1 : -(n : Int) ≤ i
    · rw [if_pos h1] at h
      have e : (i + n).toNat = j := Option.some.inj h
      exact ⟨by rw [seqIndex_neg (by omega) h1, e], by omega, h1, by omega⟩
    · rw [if_neg h1] at h; cases h
theorem atI_get {α : Type} {xs : List α} {i : Int} {v : α} (h : atI xs i = some v) : ∃ j, seqIndex? i xs.length = some j ∧ xs[j]? = some v ∧ j < xs.length ∧ -(xs.length : Int) ≤ i ∧ i < xs.length := by
  unfold atI at h
  cases e : ixN xs.length i with
  | none => rw [e] at h; cases h
  | some j =>
    rw [e] at h
    obtain ⟨h1, h2, h3, h4⟩ := ixN_seq e
    exact ⟨j, h1, h, h2, h3, h4⟩
theorem atI_nat {α : Type} {xs : List α} {j : Nat} {v : α} (h : xs[j]? = some v) : atI xs (j : Int) = some v := by
  have hj : j < xs.length := (List.getElem?_eq_some_iff.mp h).1
  have e : ixN xs.length (j : Int) = some j := by
    unfold ixN
    rw [if_pos (by omega), if_pos (by omega)]; simp
  unfold atI; rw [e]; exact h
/-! ### what may be subscripted -/
/-- what stands as an index of a plain subscript -/
def PlainIx (b : Expr) : Prop := ∀ o i, subscripted b false o i = operate [o, i] (getItem o i)
/-- a subscript by values -/
def IxR (X : Cx) (r : R2) : Prop :=
  ∀ (value slice : Expr) (pins : List (Addr × Obj)) (s : Shared) (σ : St) (H : Hp) (x y : V) (v u : Value) (Q : VK), Inv X pins σ H s → RelV x v → RelV y u → r x y H Q →
    subscripted slice false v u = operate [v, u] (getItem v u) → wpAny (model X.prog X.w) X.A (subscriptTail value slice v u) (EP X pins σ Q) X.xe s
/-- a call of a builtin's method by values: the receiver, the arguments -/
def MtR (X : Cx) (id : String) (r : V → List V → Hp → VK → Prop) : Prop :=
  ∀ (pins : List (Addr × Obj)) (s : Shared) (σ : St) (H : Hp) (x : V) (xs : List V) (v : Value) (us : List Value) (Q : VK), Inv X pins σ H s → RelV x v → Vals xs us → r x xs H Q →
    wpAny (model X.prog X.w) X.A (call (.builtin id) (v :: us)) (EP X pins σ Q) X.xe s
section
variable {X : Cx} {a b : Expr} {ta tb : TE} {pos : Pos}
/-- a[b] -/
theorem pe_ix {r : R2} (hr : IxR X r) (ha : PE X a ta) (hb : PE X b tb) (hs : PlainIx b) : PE X (.Subscript a b pos) (tOp r ta tb) := by
  intro pins s σ H Q I h
  exact Subscript_ (binT ha hb I h fun v u s2 x y H2 I2 rx ry q => hr a b pins s2 σ H2 x y v u Q I2 rx ry q (hs _ _))
def rIxL (K : PySem.W.Frag) : R2 := fun x y H Q => ∃ p xs i v, x = .ref p ∧ y = .int i ∧ SqL K H p xs ∧ atI xs i = some v ∧ Q v H
def rIxT (K : PySem.W.Frag) : R2 := fun x y H Q => ∃ p xs i v, x = .ref p ∧ y = .int i ∧ SqT K H p xs ∧ atI xs i = some v ∧ Q v H
theorem ix_list : IxR X (rIxL X.K) := by
  intro value slice pins s σ H x y v u Q I rx ry h hs
  obtain ⟨p, xs, i, z, rfl, rfl, hq, he, q⟩ := h
  cases rx
  obtain ⟨t, rfl⟩ := ry
  obtain ⟨its, r, pl, hz⟩ := I.list hq
  obtain ⟨j, h1, h2, h3, h4, h5⟩ := atI_get he
  obtain ⟨w, ew, rw'⟩ := r.get h2
  have hl := r.length
  have hn := line63
  have fin : EP X pins σ Q w s := ⟨z, H, I, rw', q⟩
  by_cases h0 : 0 ≤ i
  · have hj : i.toNat = j := by
      rw [seqIndex_of h0 h5] at h1
      exact Option.some.inj h1
    exact item_listR pl.isList h0 (by omega) (by rw [hj]; simpa using ew) fin hs
  · have hj : (i + (its.toArray.size : Int)).toNat = j := by
      rw [seqIndex_neg (by omega) h4] at h1
      rw [List.size_toArray, ← hl]
      exact Option.some.inj h1
    exact subscriptTail_builtinR (x := w) pl.isList.typeIs slot_list_getitem.lookup
      (wpAny_getItem_list_neg (Q := fun r s' => r = w ∧ EP X pins σ Q r s') pl.isList (by omega) (by rw [List.size_toArray] <;> omega) (by omega) (by rw [hj]; simpa using ew) ⟨rfl, fin⟩) hs
theorem ix_tup : IxR X (rIxT X.K) := by
  intro value slice pins s σ H x y v u Q I rx ry h hs
  obtain ⟨p, xs, i, z, rfl, rfl, hq, he, q⟩ := h
  cases rx
  obtain ⟨t, rfl⟩ := ry
  obtain ⟨its, r, pl, hz⟩ := I.tuple hq
  obtain ⟨j, h1, h2, h3, h4, h5⟩ := atI_get he
  obtain ⟨w, ew, rw'⟩ := r.get h2
  have hl := r.length
  have hn := line63
  have fin : EP X pins σ Q w s := ⟨z, H, I, rw', q⟩
  exact subscriptTail_builtinR (x := w) pl.typeIs slot_tuple_getitem.lookup
    (getItem_tuple (j := j) (Q := fun r s' => r = w ∧ EP X pins σ Q r s') pl (by omega) (by omega) (by rw [List.size_toArray, ← hl]; exact h1) (by simpa using ew) ⟨rfl, fin⟩) hs
/-! ### xs[i] = v, any sign -/
/-! ### slices -/
theorem slice_bounds (lo hi : Option Int) (n : Nat) : (sliceBounds lo hi none n).1 = ((HT.sIx n 0 lo : Nat) : Int) ∧ (sliceBounds lo hi none n).2.1 = ((HT.sIx n n hi : Nat) : Int) ∧ (sliceBounds lo hi none n).2.2 = 1 := by
  refine ⟨?_, ?_, rfl⟩
  · cases lo with
    | none => simp [sliceBounds, HT.sIx]
    | some i =>
      simp only [sliceBounds, HT.sIx, Option.getD_none, show (1 : Int) > 0 by decide, if_true]
      by_cases h : i < 0
      · simp only [h, if_true] <;> omega
      · simp only [h, if_false] <;> omega
  · cases hi with
    | none => simp [sliceBounds, HT.sIx]
    | some i =>
      simp only [sliceBounds, HT.sIx, Option.getD_none, show (1 : Int) > 0 by decide, if_true]
      by_cases h : i < 0
      · simp only [h, if_true] <;> omega
      · simp only [h, if_false] <;> omega
theorem slicePick_cut (its : List Value) (lo hi : Option Int) : slicePick its.toArray lo hi none = ((its.drop (HT.sIx its.length 0 lo)).take (HT.sIx its.length its.length hi - HT.sIx its.length 0 lo)).toArray := by
  obtain ⟨h1, h2, h3⟩ := slice_bounds lo hi its.toArray.size
  unfold slicePick
  rw [h1, h2, h3]
  simp only [sliceRange_one, pick_run, List.size_toArray] <;> rfl
/-- xs[lo:hi] of a list: a new list -/
def rSlL (K : PySem.W.Frag) : V → Option Int → Option Int → Hp → VK → Prop := fun x lo hi H Q => ∃ a xs, x = .ref a ∧ SqL K H a xs ∧ ∀ p, H p = none → Q (.ref p) (upd H p (.lst (cutV xs lo hi)))
theorem sl_list : SlR X (rSlL X.K) := by
  intro pins s σ H x v vl vu lo hi sl Q I rx hs pl pu h
  obtain ⟨a, xs, rfl, hx, q⟩ := h
  cases rx
  obtain ⟨its, r, ht, hz⟩ := I.list hx
  have hlen := r.length
  refine ⟨"list", _, slot_list_getitem.lookup, ht.isList.typeIs, ?_⟩
  refine wpAny_getItem_list_slice ht.isList hs pl pu .none (by simp) ?_ (by rw [List.size_toArray] <;> omega)
  rw [slicePick_cut, ← hlen]
  refine ⟨.ref s.heap.objs.size, _, I.laid (t' := s.toks) (o := .lst (cutV xs lo hi)) (fun b ob q => Heap.get?_push_of_some _ q) (Nat.le_refl _) ?_, rfl, q _ (I.hok.fresh (Nat.le_refl _))⟩
  exact ⟨Nat.le_trans (cutV_length xs lo hi) hz, _, 0, (r.drop (HT.sIx xs.length 0 lo)).take (HT.sIx xs.length xs.length hi - HT.sIx xs.length 0 lo), Heap.get?_push_size _ rfl⟩
/-! ### in, not in: flat items -/
def flatV : V → Bool
  | .non => true
  | .bl _ => true
  | .int _ => true
  | .str _ => true
  | _ => false
/-- == of flat values -/
def eqV : V → V → Bool
  | .non, .non => true
  | .bl a, .bl b => a == b
  | .bl a, .int b => (if a then 1 else 0) == b
  | .int a, .bl b => a == (if b then 1 else 0)
  | .int a, .int b => a == b
  | .str a, .str b => a == b
  | _, _ => false
theorem eqAt_V {A : Around} {s : Shared} {y x : V} {u v : Value} (ry : RelV y u) (rx : RelV x v) (fy : flatV y = true) (fx : flatV x = true) : SeqAt.EqAt A s u v (eqV y x) := by
  cases y with
  | non =>
    cases ry
    cases x with
    | non => cases rx; exact SeqAt.EqAt.same _
    | bl b => cases rx; exact SeqAt.EqAt.none_bool b
    | int b => obtain ⟨t, rfl⟩ := rx; exact SeqAt.EqAt.none_int b t
    | str b => obtain ⟨t, rfl⟩ := rx; exact SeqAt.EqAt.none_str b t
    | _ => exact absurd (show false = true from fx) Bool.false_ne_true
  | bl a =>
    cases ry
    cases x with
    | non => cases rx; exact SeqAt.EqAt.bool_none a
    | bl b => cases rx; exact SeqAt.EqAt.bool_bool a b
    | int b => obtain ⟨t, rfl⟩ := rx; exact SeqAt.EqAt.bool_int a b t
    | str b => obtain ⟨t, rfl⟩ := rx; exact SeqAt.EqAt.bool_str a b t
    | _ => exact absurd (show false = true from fx) Bool.false_ne_true
  | int a =>
    obtain ⟨t', rfl⟩ := ry
    cases x with
    | non => cases rx; exact SeqAt.EqAt.int_none a t'
    | bl b => cases rx; exact SeqAt.EqAt.int_bool a t' b
    | int b => obtain ⟨t, rfl⟩ := rx; exact SeqAt.EqAt.int_int a t' b t
    | str b => obtain ⟨t, rfl⟩ := rx; exact SeqAt.EqAt.int_str a t' b t
    | _ => exact absurd (show false = true from fx) Bool.false_ne_true
  | str a =>
    obtain ⟨t', rfl⟩ := ry
    cases x with
    | non => cases rx; exact SeqAt.EqAt.str_none a t'
    | bl b => cases rx; exact SeqAt.EqAt.str_bool a t' b
    | int b => obtain ⟨t, rfl⟩ := rx; exact SeqAt.EqAt.str_int a t' b t
    | str b => obtain ⟨t, rfl⟩ := rx; exact SeqAt.EqAt.str_str a t' b t
    | _ => exact absurd (show false = true from fx) Bool.false_ne_true
  | _ => exact absurd (show false = true from fy) Bool.false_ne_true
/-- the items' answers, read off the values (a value's own answer does not lean on its token) -/
def eqU (x : V) (u : Value) : Bool := match u with
  | .none => eqV .non x
  | .bool b => eqV (.bl b) x
  | .int i _ => eqV (.int i) x
  | .str z _ => eqV (.str z) x
  | _ => false
theorem eqU_of {x y : V} {u : Value} (r : RelV y u) (f : flatV y = true) : eqU x u = eqV y x := by
  cases y with
  | non => cases r; rfl
  | bl b => cases r; rfl
  | int i => obtain ⟨t, rfl⟩ := r; rfl
  | str z => obtain ⟨t, rfl⟩ := r; rfl
  | _ => exact absurd (show false = true from f) Bool.false_ne_true
theorem any_eqU {x : V} : ∀ {xs : List V} {us : List Value}, Vals xs us → xs.all flatV = true → us.any (eqU x) = xs.any fun y => eqV y x
  | _, _, .nil, _ => rfl
  | y :: xs, u :: us, .cons r t, f => by
    rw [List.all_cons, Bool.and_eq_true] at f
    rw [List.any_cons, List.any_cons, eqU_of r f.1, any_eqU t f.2]
theorem mem_eqAt {A : Around} {s : Shared} {x : V} {v : Value} (rx : RelV x v) (fx : flatV x = true) : ∀ {xs : List V} {us : List Value}, Vals xs us → xs.all flatV = true → ∀ u ∈ us, SeqAt.EqAt A s u v (eqU x u)
  | _, _, .nil, _ => fun u hu => by cases hu
  | y :: xs, u :: us, .cons r t, f => fun u' hu => by
    rw [List.all_cons, Bool.and_eq_true] at f
    rcases List.mem_cons.mp hu with rfl | hu
    · rw [eqU_of r f.1]; exact eqAt_V r rx f.1 fx
    · exact mem_eqAt rx fx t f.2 u' hu
def inV (x : V) (xs : List V) : Bool := xs.any fun y => eqV y x
/-- x in a list or tuple of flat items -/
def rIn (K : PySem.W.Frag) (neg : Bool) : R2 := fun x y H Q => ∃ p xs, y = .ref p ∧ (SqL K H p xs ∨ SqT K H p xs) ∧ flatV x = true ∧ xs.all flatV = true ∧ Q (.bl (if neg then !inV x xs else inV x xs)) H
theorem op_in_seq : OpR X (compareOp .In) (rIn X.K false) := by
  intro pins s σ H x y v u Q I rx ry h
  obtain ⟨p, xs, rfl, hq, fx, fs, q⟩ := h
  cases ry
  rcases hq with hq | hq
  · obtain ⟨its, r, pl, hz⟩ := I.list hq
    refine SeqAt.in_listAt (eqU x) pl.isList (fun w hw => mem_eqAt rx fx r fs w (by simpa using hw)) ⟨.bl _, H, I, rfl, ?_⟩
    rw [show its.toArray.any (eqU x) = its.any (eqU x) by simp, any_eqU r fs]
    exact q
  · obtain ⟨its, r, pl, hz⟩ := I.tuple hq
    refine SeqAt.in_tupleAt (eqU x) pl (fun w hw => mem_eqAt rx fx r fs w (by simpa using hw)) ⟨.bl _, H, I, rfl, ?_⟩
    rw [show its.toArray.any (eqU x) = its.any (eqU x) by simp, any_eqU r fs]
    exact q
theorem op_notIn_seq : OpR X (compareOp .NotIn) (rIn X.K true) := by
  intro pins s σ H x y v u Q I rx ry h
  obtain ⟨p, xs, rfl, hq, fx, fs, q⟩ := h
  cases ry
  rcases hq with hq | hq
  · obtain ⟨its, r, pl, hz⟩ := I.list hq
    refine SeqAt.notIn_listAt (eqU x) pl.isList (fun w hw => mem_eqAt rx fx r fs w (by simpa using hw)) ⟨.bl _, H, I, rfl, ?_⟩
    rw [show its.toArray.any (eqU x) = its.any (eqU x) by simp, any_eqU r fs]
    exact q
  · obtain ⟨its, r, pl, hz⟩ := I.tuple hq
    refine SeqAt.notIn_tupleAt (eqU x) pl (fun w hw => mem_eqAt rx fx r fs w (by simpa using hw)) ⟨.bl _, H, I, rfl, ?_⟩
    rw [show its.toArray.any (eqU x) = its.any (eqU x) by simp, any_eqU r fs]
    exact q
/-! ### len, list(x), tuple(x) of any list or tuple that is read -/
theorem call_len_seq : CallR X (.builtin "len") (fun xs H Q => ∃ p ys, xs = [.ref p] ∧ (SqL X.K H p ys ∨ SqT X.K H p ys) ∧ Q (.int ys.length) H) := by
  intro pins s σ H xs us Q I r h
  obtain ⟨p, ys, rfl, hq, q⟩ := h
  obtain ⟨u, rfl, rx⟩ := vals1 r
  cases rx
  have hn := line63
  rcases hq with hq | hq
  · obtain ⟨its, r', pl, hz⟩ := I.list hq
    have hlen := r'.length
    exact Calls.call_len_list pl.isList (by simp only [List.size_toArray] <;> omega) ⟨.int ys.length, H, I.tok _, ⟨s.toks + 1, by rw [List.size_toArray, hlen]⟩, q⟩
  · obtain ⟨its, r', pl, hz⟩ := I.tuple hq
    have hlen := r'.length
    exact len_tuple pl (by simp only [List.size_toArray] <;> omega) ⟨.int ys.length, H, I.tok _, ⟨s.toks + 1, by rw [List.size_toArray, hlen]⟩, q⟩
theorem call_list_of : CallR X (.type "list") (fun xs H Q => ∃ p ys, xs = [.ref p] ∧ (SqL X.K H p ys ∨ SqT X.K H p ys) ∧ ∀ l, H l = none → Q (.ref l) (upd H l (.lst ys))) := by
  intro pins s σ H xs us Q I r h
  obtain ⟨p, ys, rfl, hq, q⟩ := h
  obtain ⟨u, rfl, rx⟩ := vals1 r
  cases rx
  have fin : ∀ (its : List Value), Vals ys its → ys.length ≤ sizeLine → ∀ (h' : Heap) (c' : Nat), (∀ b o', s.heap.get? b = some o' → h'.get? b = some o') →
      h'.get? s.heap.objs.size = some { cls := .type "list", dict := none, data := .seq its.toArray c', slots := #[] } → EP X pins σ Q (.ref s.heap.objs.size) { s with heap := h' } := fun its r' hz h' c' kp e =>
    ⟨.ref s.heap.objs.size, _, I.laid (t' := s.toks) kp (Nat.le_refl _) (show ObjOk X.prog X.w _ h' _ (.lst ys) from ⟨hz, its, c', r', e⟩), rfl, q _ (I.hok.fresh (Nat.le_refl _))⟩
  rcases hq with hq | hq
  · obtain ⟨its, r', pl, hz⟩ := I.list hq
    have hlen := r'.length
    obtain ⟨o, ho, hc, n, hd⟩ := pl.isList
    exact call_list_seq p (.inl rfl) ho hc hd (fun h' c' kp e => fin its r' hz h' c' kp e) (by simp only [List.size_toArray] <;> omega)
  · obtain ⟨its, r', pl, hz⟩ := I.tuple hq
    have hlen := r'.length
    obtain ⟨o, ho, hc, n, hd⟩ := pl
    exact call_list_seq p (.inr rfl) ho hc hd (fun h' c' kp e => fin its r' hz h' c' kp e) (by simp only [List.size_toArray] <;> omega)
/-! ### the call of a builtin's method: o.m(..) -/
/-- the value is of that builtin type -/
def tyV (K : PySem.W.Frag) (T : String) (x : V) (H : Hp) : Prop := match x with
  | .str _ => T = "str"
  | .int _ => T = "int"
  | .ref p => (T = "list" ∧ ∃ xs, SqL K H p xs) ∨ (T = "tuple" ∧ ∃ o, K.lookup p = some o ∧ o.cls = .type "tuple" ∧ o.dict = none) ∨
      (T = "dict" ∧ ((∃ kvs, H p = some (.dK kvs)) ∨ ∃ kvs, H p = some (.dT kvs))) ∨ (T = "set" ∧ ∃ S n, H p = some (.set S n))
  | _ => False
theorem tyV_is {pins : List (Addr × Obj)} {σ : St} {H : Hp} {s : Shared} {T : String} {x : V} {v : Value} (I : Inv X pins σ H s) (r : RelV x v) (ty : tyV X.K T x H) :
    s.TypeIs v T ∧ ∀ a, v = .ref a → ∃ ob, s.heap.get? a = some ob ∧ ob.dict = none := by
  cases x with
  | str z =>
    obtain ⟨t, rfl⟩ := r
    cases (show T = "str" from ty)
    exact ⟨typeIs_str s z t, fun _ e => nomatch e⟩
  | int i =>
    obtain ⟨t, rfl⟩ := r
    cases (show T = "int" from ty)
    exact ⟨typeIs_int s i t, fun _ e => nomatch e⟩
  | ref p =>
    cases r
    rcases ty with ⟨rfl, xs, hq⟩ | ⟨rfl, o, hk, hc, hd⟩ | ⟨rfl, hk⟩ | ⟨rfl, S, n, hk⟩
    · obtain ⟨its, _, pl, _⟩ := I.list hq
      refine ⟨pl.isList.typeIs, fun a e => ?_⟩
      cases e
      obtain ⟨o, n, e, c, hd, _⟩ := pl
      exact ⟨o, e, hd⟩
    · refine ⟨⟨o, I.kIn p o hk, hc⟩, fun a e => ?_⟩
      cases e
      exact ⟨o, I.kIn _ o hk, hd⟩
    · have z : ∃ o, s.heap.get? p = some o ∧ o.ExactDict := by
        rcases hk with ⟨kvs, hk⟩ | ⟨kvs, hk⟩
        · obtain ⟨_, _, _, _, o, _, _, e, ex, _⟩ := I.hok p _ hk
          exact ⟨o, e, ex⟩
        · obtain ⟨_, _, _, _, o, _, _, e, ex, _⟩ := I.hok p _ hk
          exact ⟨o, e, ex⟩
      obtain ⟨o, e, ex⟩ := z
      refine ⟨⟨o, e, ex.1⟩, fun a e2 => ?_⟩
      cases e2
      exact ⟨o, e, ex.2.1⟩
    · obtain ⟨o, _, _, _, e, ex, _⟩ := I.hok p _ hk
      refine ⟨⟨o, e, ex.1⟩, fun a e2 => ?_⟩
      cases e2
      exact ⟨o, e, ex.2.1⟩
  | _ => exact False.elim ty
def tBM (K : PySem.W.Frag) (T : String) (r : V → List V → Hp → VK → Prop) (to : TE) (t : TA) : TE := fun σ H Q => to σ H fun x H1 => tyV K T x H1 ∧ t σ H1 fun xs H2 => r x xs H2 Q
variable {o e : Expr} {es : List Expr} {to : TE} {t : TA} {name : Str} {apos cpos : Pos} {T id : String} {r : V → List V → Hp → VK → Prop}
theorem pe_bm (pa : PlainAttrs T) (slot : Slot T name id) (hty : typeOf (.builtin id) = pure (.type "method_descriptor")) (hm : MtR X id r) (ho : PE X o to) (ha : PA X (e :: es) t)
    (hbase : attributeBase o name X.env (eval o X.env) = eval o X.env := by rfl)
    (hfew : ((backTo cpos (starEach (e :: es) X.env)).all (fun x => !x.1) && (backToKw cpos (keywordEach [] X.env)).all (fun x => x.1.isSome)
      && decide ((e :: es).length + ([] : List Keyword).length + (if ([] : List Keyword).isEmpty then 0 else 1) < 30)) = true := by rfl)
    (hline : (apos.endLine == cpos.line) = true := by rfl) (hs : starEach (e :: es) X.env = (false, eval e X.env) :: starEach es X.env := by rfl) (hplain : (backTo cpos (starEach es X.env)).any (·.1) = false := by rfl) :
    PE X (.Call (.Attribute o name apos) (e :: es) [] cpos) (tBM X.K T r to t) := by
  intro pins s σ H Q I h
  refine wpAny_Call_method_late hbase hfew hline rfl (thn (ho pins s σ H _ I h) fun v s1 ⟨x, H1, I1, r1, ty, q1⟩ => ?_)
  obtain ⟨h1, h2⟩ := tyV_is I1 r1 ty
  refine ⟨T, id, pa, slot, hty, h1, h2, ?_⟩
  have hA := ha cpos pins s1 σ H1 _ I1 q1
  rw [hs] at hA ⊢
  refine Calls.callWith_builtin (by show (false || (backTo cpos (starEach es X.env)).any (·.1)) = false; rw [hplain] <;> rfl) (Calls.evalArgs_plain ?_)
  exact thn hA fun us s2 ⟨vs, H2, I2, r2, q2⟩ => hm pins s2 σ H2 x vs v us Q I2 r1 r2 q2
/- xs.append(e), list.index on a module's tuple .. are MtR facts of 06m -/
end
end L2
namespace L2
open PySem PySem.Spec PyProof.Rows
def MtM (X : Cx) (id : String) (r : V → List V → Hp → VK → Prop) : Prop :=
  ∀ (pins : List (Addr × Obj)) (s : Shared) (σ : St) (H : Hp) (x : V) (xs : List V) (v : Value) (us : List Value) (Q : VK), Inv X pins σ H s → RelV x v → Vals xs us → r x xs H Q →
    wpAny (model X.prog X.w) X.A (call (.builtin id) (v :: us)) (EP X pins σ Q) X.xe s
/-! ### lists of values -/
theorem Vals.one : ∀ {x : V} {us : List Value}, Vals [x] us → ∃ u, us = [u] ∧ RelV x u
  | _, _, .cons r .nil => ⟨_, rfl, r⟩
theorem Vals.eraseIdx : ∀ {xs : List V} {us : List Value} (i : Nat), Vals xs us → Vals (xs.eraseIdx i) (us.eraseIdx i)
  | _, _, _, .nil => .nil
  | _, _, 0, .cons _ t => t
  | _, _, i + 1, .cons r t => .cons r (Vals.eraseIdx i t)
section
variable {X : Cx} {pins : List (Addr × Obj)} {σ : St} {H : Hp} {s : Shared} {l b : Addr} {xs ys zs : List V}
/-! ### the two steps: a tracked list is rewritten, a new list is laid -/
theorem Inv.lset {its its' : List Value} {n : Nat} {f : Array Value → Array Value} {t' : Nat} (I : Inv X pins σ H s) (hH : H l = some (.lst xs))
    (e : s.heap.get? l = some { cls := .type "list", data := .seq its.toArray n }) (hf : f its.toArray = its'.toArray) (hv : Vals ys its') (hz : ys.length ≤ sizeLine) :
    Inv X pins σ (upd H l (.lst ys)) { s with heap := s.heap.update l (Obj.mapSeq f), toks := t' } := by
  have q := PySem.IsL.update e f
  rw [hf] at q
  refine I.write (x := l) (e := l) (by rw [hH]; exact trivial) (.inl rfl) (fun b' u hb hu => (Heap.get?_update_other s.heap (Obj.mapSeq f) (Ne.symm hb)).trans hu) ⟨_, q⟩ ?_
  exact ⟨hz, its', _, hv, q⟩
theorem Inv.lnew {its : List Value} {t' : Nat} (I : Inv X pins σ H s) (hv : Vals ys its) (hz : ys.length ≤ sizeLine) :
    Inv X pins σ (upd H s.heap.objs.size (.lst ys)) { s with heap := s.heap.push { cls := .type "list", data := .seq its.toArray }, toks := t' } :=
  I.laid (fun _ _ q => Heap.get?_push_of_some _ q) (Nat.le_refl _) ⟨hz, its, 0, hv, Heap.get?_push_size _ rfl⟩
theorem Inv.fresh (I : Inv X pins σ H s) : H s.heap.objs.size = none := I.hok.fresh (Nat.le_refl _)
theorem Inv.lstM (I : Inv X pins σ H s) (hH : H l = some (.lst xs)) : xs.length ≤ sizeLine ∧ ∃ (its : List Value) (n : Nat), Vals xs its ∧ xs.length = its.length ∧ s.heap.get? l = some { cls := .type "list", data := .seq its.toArray n } := by
  obtain ⟨z, its, n, r, e⟩ := I.hok l _ hH
  exact ⟨z, its, n, r, r.length, e⟩
theorem notLongL {n : Nat} (h : n ≤ sizeLine) : Builtin.List.listTooLong n = false := by
  unfold Builtin.List.listTooLong
  exact decide_eq_false (by omega)
end
section
variable {X : Cx}
/-! ### methods -/
def rAppend : V → List V → Hp → VK → Prop := fun x vs H Q => ∃ l xs y, x = .ref l ∧ vs = [y] ∧ H l = some (.lst xs) ∧ xs.length < sizeLine ∧ Q .non (upd H l (.lst (xs ++ [y])))
theorem mt_append : MtM X "list.append" rAppend := by
  intro pins s σ H x vs v us Q I rx rv h
  obtain ⟨l, xs, y, rfl, rfl, hH, hz, q⟩ := h
  cases rx
  obtain ⟨u, rfl, ru⟩ := rv.one
  obtain ⟨z, its, n, r, hl, e⟩ := I.lstM hH
  refine call_meets F.slot_list_append ⟨_, e, rfl⟩ F.entry_list_append (F.args_list_append_2 _ _) (PySem.list_append l its.toArray n u (by rw [List.size_toArray]; omega)) ⟨e, ?_⟩
  refine ⟨.non, _, I.lset (its' := its ++ [u]) hH e (by simp) (r.append (.cons ru .nil)) ?_, rfl, q⟩
  rw [List.length_append, List.length_singleton]
  omega
def rExtend : V → List V → Hp → VK → Prop := fun x vs H Q => ∃ l b xs zs, x = .ref l ∧ vs = [.ref b] ∧ H l = some (.lst xs) ∧ H b = some (.lst zs) ∧ xs.length + zs.length ≤ sizeLine ∧ Q .non (upd H l (.lst (xs ++ zs)))
theorem mt_extend : MtM X "list.extend" rExtend := by
  intro pins s σ H x vs v us Q I rx rv h
  obtain ⟨l, b, xs, zs, rfl, rfl, hH, hB, hz, q⟩ := h
  cases rx
  obtain ⟨u, rfl, ru⟩ := rv.one
  cases ru
  obtain ⟨z, its, n, r, hl, e⟩ := I.lstM hH
  obtain ⟨z2, its2, n2, r2, hl2, e2⟩ := I.lstM hB
  have hsz : its.toArray.size + its2.toArray.size ≤ sizeLine := by rw [List.size_toArray, List.size_toArray]; omega
  have hlong : ¬ (!its.toArray.isEmpty && Builtin.List.listTooLong (its.toArray.size + its2.toArray.size)) = true := by
    rw [notLongL hsz, Bool.and_false]
    exact Bool.false_ne_true
  refine call_meets F.slot_list_extend ⟨_, e, rfl⟩ F.entry_list_extend (F.args_list_extend_2 _ _)
    (AutoSeq1.list_extend_list_list_0 l its.toArray n b its2.toArray n2 hlong (by rw [List.size_toArray]; omega) (by omega)) ⟨e, e2, ?_⟩
  refine ⟨.non, _, I.lset (its' := its ++ its2) hH e (by simp) (r.append r2) ?_, rfl, q⟩
  rw [List.length_append]
  omega
/-! ### list + list, list += list, list * int -/
def rCat : R2 := fun x y H Q => ∃ l b xs zs, x = .ref l ∧ y = .ref b ∧ H l = some (.lst xs) ∧ H b = some (.lst zs) ∧ xs.length + zs.length ≤ sizeLine ∧ ∀ p, H p = none → Q (.ref p) (upd H p (.lst (xs ++ zs)))
theorem op_cat : OpR X (binaryOp .Add) rCat := by
  intro pins s σ H x y v u Q I rx ry h
  obtain ⟨l, b, xs, zs, rfl, rfl, hH, hB, hz, q⟩ := h
  cases rx
  cases ry
  obtain ⟨z, its, n, r, hl, e⟩ := I.lstM hH
  obtain ⟨z2, its2, n2, r2, hl2, e2⟩ := I.lstM hB
  refine PySem.P.add_list e e2 ?_ (by rw [List.size_toArray, List.size_toArray]; omega)
  have ea : its.toArray ++ its2.toArray = (its ++ its2).toArray := by simp
  rw [ea]
  exact ⟨.ref _, _, I.lnew (t' := s.toks) (r.append r2) (by rw [List.length_append]; omega), rfl, q _ I.fresh⟩
/-! ### del xs[i] -/
end
/-! ### xs[a:b] = ys -/
section
variable {prog : Program} {w : World} {A : Around} {E : Value → Shared → Prop} {s : Shared}
end
section
variable {X : Cx}
end
end L2
namespace L2
open PySem PySem.Spec PyProof.Rows
/-! ### lists of pairs as tables -/
section
variable {κ : Type} [DecidableEq κ]
def valV (kvs : List (κ × V)) (k : κ) : Option V := (kvs.find? fun kv => decide (kv.1 = k)).map (·.2)
/-- in its place, or at the end -/
def putK (kvs : List (κ × V)) (k : κ) (v : V) : List (κ × V) :=
  if (kvs.any fun kv => decide (kv.1 = k)) = true then kvs.map (fun kv => if kv.1 = k then (kv.1, v) else kv) else kvs ++ [(k, v)]
def dropK (kvs : List (κ × V)) (k : κ) : List (κ × V) := kvs.filter fun kv => decide (kv.1 ≠ k)
theorem valV_nil {k : κ} : valV ([] : List (κ × V)) k = none := rfl
theorem valV_pos {p : κ × V} {r : List (κ × V)} {k : κ} (e : p.1 = k) : valV (p :: r) k = some p.2 := by simp [valV, List.find?_cons, e]
theorem valV_neg {p : κ × V} {r : List (κ × V)} {k : κ} (e : ¬ p.1 = k) : valV (p :: r) k = valV r k := by simp [valV, List.find?_cons, e]
theorem valV_any (k : κ) : ∀ kvs : List (κ × V), (kvs.any fun kv => decide (kv.1 = k)) = (valV kvs k).isSome
  | [] => rfl
  | p :: r => by
    rw [List.any_cons]
    by_cases e : p.1 = k
    · simp only [valV_pos e, decide_eq_true e, Bool.true_or, Option.isSome_some]
    · rw [valV_neg e, decide_eq_false e, Bool.false_or]; exact valV_any k r
theorem valV_map (k j : κ) (y : V) : ∀ kvs : List (κ × V), valV (kvs.map fun kv => if kv.1 = k then (kv.1, y) else kv) j = (valV kvs j).map fun x => if j = k then y else x
  | [] => rfl
  | p :: r => by
    have ih := valV_map k j y r
    rw [List.map_cons]
    by_cases h : p.1 = k
    · rw [if_pos h]
      by_cases e : p.1 = j
      · rw [valV_pos (p := (p.1, y)) e, valV_pos e, Option.map_some, if_pos (e.symm.trans h)]
      · rw [valV_neg (p := (p.1, y)) e, valV_neg e, ih]
    · rw [if_neg h]
      by_cases e : p.1 = j
      · rw [valV_pos (p := p) e, valV_pos e, Option.map_some, if_neg (fun z => h (e.trans z))]
      · rw [valV_neg (p := p) e, valV_neg e, ih]
theorem valV_snoc (k j : κ) (y : V) : ∀ kvs : List (κ × V), valV kvs k = none → valV (kvs ++ [(k, y)]) j = if j = k then some y else valV kvs j
  | [], _ => by
    by_cases e : k = j
    · rw [if_pos e.symm]; exact valV_pos (p := (k, y)) e
    · rw [if_neg (fun z => e z.symm)]; exact valV_neg (p := (k, y)) e
  | p :: r, hn => by
    rw [List.cons_append]
    have hk : ¬ p.1 = k := fun z => by rw [valV_pos z] at hn; cases hn
    rw [valV_neg hk] at hn
    have ih := valV_snoc k j y r hn
    by_cases e : p.1 = j
    · rw [valV_pos e, valV_pos e, if_neg (fun z => hk (e.trans z))]
    · rw [valV_neg e, valV_neg e, ih]
theorem valV_put (kvs : List (κ × V)) (k j : κ) (y : V) : valV (putK kvs k y) j = if j = k then some y else valV kvs j := by
  unfold putK
  by_cases a : (kvs.any fun kv => decide (kv.1 = k)) = true
  · rw [if_pos a, valV_map]
    rw [valV_any] at a
    by_cases e : j = k
    · obtain ⟨x, hx⟩ := Option.isSome_iff_exists.mp a
      rw [if_pos e, e, hx, Option.map_some, if_pos rfl]
    · rw [if_neg e]
      cases valV kvs j with
      | none => rfl
      | some x => rw [Option.map_some, if_neg e]
  · rw [if_neg a]
    refine valV_snoc k j y kvs ?_
    rw [valV_any] at a
    cases q : valV kvs k with
    | none => rfl
    | some x => rw [q] at a; exact (a rfl).elim
theorem length_putK (kvs : List (κ × V)) (k : κ) (v : V) : (putK kvs k v).length ≤ kvs.length + 1 := by
  unfold putK
  split
  · rw [List.length_map]; omega
  · rw [List.length_append, List.length_cons, List.length_nil]; omega
theorem putK_new {kvs : List (κ × V)} {k : κ} (v : V) (h : valV kvs k = none) : putK kvs k v = kvs ++ [(k, v)] := by
  unfold putK
  rw [valV_any, h]
  exact if_neg (by decide)
theorem RelO.isSome_eq {o : Option V} {u : Option Value} (r : RelO o u) : o.isSome = u.isSome := by
  cases o with
  | none => cases u with
    | none => rfl
    | some _ => exact (show False from r).elim
  | some _ => cases u with
    | none => exact (show False from r).elim
    | some _ => rfl
theorem RelO.getD {o : Option V} {u : Option Value} {d : V} {d' : Value} (r : RelO o u) (rd : RelV d d') : RelV (o.getD d) (u.getD d') := by
  cases o with
  | none => cases u with
    | none => exact rd
    | some _ => exact (show False from r).elim
  | some _ => cases u with
    | none => exact (show False from r).elim
    | some _ => exact r
/-- raw tables of the same keys -/
theorem KV.val {kvs : List (κ × V)} {vs : List (κ × Value)} (r : KV kvs vs) (k : κ) : RelO (valV kvs k) (valueAt vs k) := by
  unfold KV at r
  induction r with
  | nil => exact True.intro
  | @cons p q ps qs h t ih =>
    obtain ⟨h1, h2⟩ := h
    by_cases e : p.1 = k
    · have e' : q.1 = k := h1.symm.trans e
      have b : valueAt (q :: qs) k = some q.2 := by simp [valueAt, List.find?_cons, e']
      rw [valV_pos e, b]; exact h2
    · have e' : ¬ q.1 = k := fun z => e (h1.trans z)
      have b : valueAt (q :: qs) k = valueAt qs k := by simp [valueAt, List.find?_cons, e']
      rw [valV_neg e, b]; exact ih
theorem KV.any {kvs : List (κ × V)} {vs : List (κ × Value)} (r : KV kvs vs) (k : κ) : (kvs.any fun kv => decide (kv.1 = k)) = vs.any fun kv => decide (kv.1 = k) := by
  unfold KV at r
  induction r with
  | nil => rfl
  | cons h t ih => rw [List.any_cons, List.any_cons, ih, h.1]
theorem KV.repl {kvs : List (κ × V)} {vs : List (κ × Value)} (r : KV kvs vs) (k : κ) {y : V} {u : Value} (ry : RelV y u) :
    KV (kvs.map fun kv => if kv.1 = k then (kv.1, y) else kv) (vs.map fun kv => if kv.1 = k then (kv.1, u) else kv) := by
  unfold KV at r ⊢
  induction r with
  | nil => exact .nil
  | @cons p q ps qs h t ih =>
    rw [List.map_cons, List.map_cons]
    refine .cons ?_ ih
    obtain ⟨h1, h2⟩ := h
    by_cases e : p.1 = k
    · rw [if_pos e, if_pos (h1.symm.trans e)]; exact ⟨h1, ry⟩
    · rw [if_neg e, if_neg (fun z => e (h1.trans z))]; exact ⟨h1, h2⟩
theorem KV.put {kvs : List (κ × V)} {vs : List (κ × Value)} (r : KV kvs vs) (k : κ) {y : V} {u : Value} (ry : RelV y u) : KV (putK kvs k y) (stored vs k u) := by
  unfold putK stored
  rw [r.any k]
  by_cases e : (vs.any fun kv => decide (kv.1 = k)) = true
  · rw [if_pos e, if_pos e]; exact r.repl k ry
  · rw [if_neg e, if_neg e]; exact Paired.snoc r ⟨rfl, ry⟩
theorem KV.drop {kvs : List (κ × V)} {vs : List (κ × Value)} (r : KV kvs vs) (k : κ) : KV (dropK kvs k) (without vs k) := by
  unfold KV at r ⊢
  unfold dropK without
  induction r with
  | nil => exact .nil
  | @cons p q ps qs h t ih =>
    obtain ⟨h1, h2⟩ := h
    rw [List.filter_cons, List.filter_cons]
    by_cases e : p.1 = k
    · have a : ¬ decide (p.1 ≠ k) = true := by simp [e]
      have b : ¬ decide (q.1 ≠ k) = true := by simp [h1.symm.trans e]
      rw [if_neg a, if_neg b]; exact ih
    · have e' : ¬ q.1 = k := fun z => e (h1.trans z)
      have a : decide (p.1 ≠ k) = true := by simp [e]
      have b : decide (q.1 ≠ k) = true := by simp [e']
      rw [if_pos a, if_pos b]; exact .cons ⟨h1, h2⟩ ih
theorem KV.keys {kvs : List (κ × V)} {vs : List (κ × Value)} (r : KV kvs vs) : kvs.map (·.1) = vs.map (·.1) := by
  unfold KV at r
  induction r with
  | nil => rfl
  | cons h t ih => rw [List.map_cons, List.map_cons, ih, h.1]
theorem KV.length {kvs : List (κ × V)} {vs : List (κ × Value)} (r : KV kvs vs) : kvs.length = vs.length := Paired.length r
theorem dropK_le (kvs : List (κ × V)) (k : κ) : (dropK kvs k).length ≤ kvs.length := List.length_filter_le _ _
end
/-! ### a tracked dict, its keys ints and texts or tuples of these -/
theorem kV_is {P : Program} {w : World} {k : Key} {u : Value} (r : RelV (kV k) u) : (mixKind P w).is k u = true := by
  cases k with
  | inl i => obtain ⟨t, e⟩ := (show ∃ t, u = Value.int i t from r); subst e; exact mixKind_int P w i t
  | inr x => obtain ⟨t, e⟩ := (show ∃ t, u = Value.str x t from r); subst e; exact mixKind_str P w x t
theorem items_are {P : Program} {w : World} : ∀ {ks : List Key} {us : List Value}, Vals (ks.map kV) us → ItemsAre (mixKind P w) ks us
  | [], _, r => by rw [List.map_nil] at r; cases r; exact .nil
  | k :: ks, _, r => by
    rw [List.map_cons] at r
    cases r with
    | cons h t => exact .cons (kV_is h) (items_are t)
/-- raw entries of a dict with tuple keys -/
abbrev KT (H : Hp) : List (List Key × V) → List (List Key × Addr × Value) → Prop := Paired fun p q => p.1 = q.1 ∧ H q.2.1 = some (.tup (p.1.map kV)) ∧ RelV p.2 q.2.2
theorem KT.val {H : Hp} {kvs : List (List Key × V)} {xs : List (List Key × Addr × Value)} (r : KT H kvs xs) (k : List Key) : RelO (valV kvs k) ((atKey xs k).map (·.2)) := by
  induction r with
  | nil => exact True.intro
  | @cons p q ps qs h t ih =>
    obtain ⟨h1, _, h2⟩ := h
    by_cases e : p.1 = k
    · have e' : q.1 = k := h1.symm.trans e
      have b : atKey (q :: qs) k = some q.2 := by simp [atKey, List.find?_cons, e']
      rw [valV_pos e, b]; exact h2
    · have e' : ¬ q.1 = k := fun z => e (h1.trans z)
      have b : atKey (q :: qs) k = atKey qs k := by simp [atKey, List.find?_cons, e']
      rw [valV_neg e, b]; exact ih
theorem KT.repl {H : Hp} {kvs : List (List Key × V)} {xs : List (List Key × Addr × Value)} (r : KT H kvs xs) (k : List Key) {y : V} {u : Value} (ry : RelV y u) :
    KT H (kvs.map fun kv => if kv.1 = k then (kv.1, y) else kv) (xs.map (putAt k u)) := by
  induction r with
  | nil => exact .nil
  | @cons p q ps qs h t ih =>
    rw [List.map_cons, List.map_cons]
    refine .cons ?_ ih
    obtain ⟨h1, h2, h3⟩ := h
    unfold putAt
    by_cases e : p.1 = k
    · rw [if_pos e, if_pos (h1.symm.trans e)]; exact ⟨h1, h2, ry⟩
    · rw [if_neg e, if_neg (fun z => e (h1.trans z))]; exact ⟨h1, h2, h3⟩
theorem KT.put {H : Hp} {kvs : List (List Key × V)} {xs : List (List Key × Addr × Value)} (r : KT H kvs xs) (k : List Key) {b : Addr} {y : V} {u : Value} (hb : H b = some (.tup (k.map kV))) (ry : RelV y u) :
    KT H (putK kvs k y) (storedH xs k b u) := by
  have e : (kvs.any fun kv => decide (kv.1 = k)) = (atKey xs k).isSome := by
    rw [valV_any, (r.val k).isSome_eq, Option.isSome_map]
  unfold putK storedH
  rw [e]
  by_cases q : (atKey xs k).isSome = true
  · rw [if_pos q, if_pos q]; exact r.repl k ry
  · rw [if_neg q, if_neg q]; exact Paired.snoc r ⟨rfl, hb, ry⟩
theorem KT.keeps {H H' : Hp} {kvs : List (List Key × V)} {xs : List (List Key × Addr × Value)} (r : KT H kvs xs) (ht : ∀ b ys, H b = some (.tup ys) → H' b = some (.tup ys)) : KT H' kvs xs :=
  Paired.mapP r fun _ _ z => ⟨z.1, ht _ _ z.2.1, z.2.2⟩
section
variable {P : Program} {w : World} {H : Hp} {h : Heap} {a : Addr}
theorem rd_of {u : HO} (ok : HOk P w H h) (e : Rd H a u) : ObjOk P w H h a u := e.ok ok
theorem dk_rd {kvs : List (Key × V)} (ok : HOk P w H h) (e : Rd H a (.dK kvs)) : kvs.length ≤ sizeLine ∧ (a == sysModules) = false ∧ ∃ vs, KV kvs vs ∧ h.DictOf (mixKind P w) a vs :=
  show ObjOk P w H h a (.dK kvs) from rd_of ok e
theorem dk_of {kvs : List (Key × V)} (ok : HOk P w H h) (e : H a = some (.dK kvs)) : kvs.length ≤ sizeLine ∧ (a == sysModules) = false ∧ ∃ vs, KV kvs vs ∧ h.DictOf (mixKind P w) a vs := dk_rd ok (.inl e)
/-- a tracked tuple of ints and texts is a key -/
theorem key_of {ks : List Key} (ok : HOk P w H h) (e : H a = some (.tup (ks.map kV))) : (tupleKind (mixKind P w)).is h ks a := by
  obtain ⟨_, its, r, o, h1, h2, n, h3⟩ := (show ObjOk P w H h a (.tup (ks.map kV)) from ok a _ e)
  exact ⟨o, its.toArray, n, h1, h2, h3, by simpa using items_are r⟩
theorem dt_rd {kvs : List (List Key × V)} (ok : HOk P w H h) (e : Rd H a (.dT kvs)) : kvs.length ≤ sizeLine ∧ (a == sysModules) = false ∧
    ∃ xs, KT H kvs xs ∧ h.DictOfH (tupleKind (mixKind P w)) a xs := by
  obtain ⟨z, y, xs, r, o, es, ep, h1, h2, h3, h4, h5⟩ := (show ObjOk P w H h a (.dT kvs) from rd_of ok e)
  refine ⟨z, y, xs, r, o, es, ep, h1, h2, h3, h4, fun x hx => ?_, h5⟩
  have all : ∀ {l : List (List Key × V)} {m : List (List Key × Addr × Value)}, KT H l m → ∀ x ∈ m, (tupleKind (mixKind P w)).is h x.1 x.2.1 := by
    intro l m q
    induction q with
    | nil => intro x hx; exact nomatch hx
    | @cons p q ps qs hq t ih =>
      intro x hx
      rcases List.mem_cons.mp hx with e | hx
      · subst e
        exact key_of ok (by rw [← hq.1]; exact hq.2.1)
      · exact ih x hx
  exact all r x hx
theorem dt_of {kvs : List (List Key × V)} (ok : HOk P w H h) (e : H a = some (.dT kvs)) : kvs.length ≤ sizeLine ∧ (a == sysModules) = false ∧
    ∃ xs, KT H kvs xs ∧ h.DictOfH (tupleKind (mixKind P w)) a xs := dt_rd ok (.inl e)
end
/-- what the dict at a holds at the key y -/
def DGet (H : Hp) (a : Addr) (y : V) (r : Option V) : Prop :=
  (∃ kvs k, Rd H a (.dK kvs) ∧ y = kV k ∧ r = valV kvs k) ∨ ∃ kvs k b, Rd H a (.dT kvs) ∧ y = .ref b ∧ H b = some (.tup (k.map kV)) ∧ r = valV kvs k
/-- the heap behind a[y] = v -/
def DPut (H : Hp) (a : Addr) (y v : V) (H' : Hp) : Prop :=
  (∃ kvs k, H a = some (.dK kvs) ∧ y = kV k ∧ kvs.length < sizeLine ∧ H' = upd H a (.dK (putK kvs k v))) ∨
  ∃ kvs k b, H a = some (.dT kvs) ∧ y = .ref b ∧ H b = some (.tup (k.map kV)) ∧ kvs.length < sizeLine ∧ H' = upd H a (.dT (putK kvs k v))
theorem DGet.k {H : Hp} {a : Addr} {kvs : List (Key × V)} {k : Key} (e : H a = some (.dK kvs)) : DGet H a (kV k) (valV kvs k) := .inl ⟨kvs, k, .inl e, rfl, rfl⟩
theorem DPut.k {H : Hp} {a : Addr} {kvs : List (Key × V)} {k : Key} {v : V} (e : H a = some (.dK kvs)) (hl : kvs.length < sizeLine) : DPut H a (kV k) v (upd H a (.dK (putK kvs k v))) := .inl ⟨kvs, k, e, rfl, hl, rfl⟩
section
variable {X : Cx} {pins : List (Addr × Obj)} {σ : St} {H : Hp} {s : Shared} {a : Addr} {y v : V} {u r : Value} {o : Option V} {A : Around} {E : Value → Shared → Prop}
theorem Inv.big (I : Inv X pins σ H s) : sysModules < s.heap.objs.size := by
  have h : mainGlobals < s.heap.objs.size := (I.mod.glob.keeps I.bk).lt
  exact Nat.lt_trans (by decide) h
/-- d[y], there -/
theorem d_getItem {Q : Value → Shared → Prop} (hu : A.units + 1 < cLine) (I : Inv X pins σ H s) (g : DGet H a y (some v)) (ry : RelV y u) (h : ∀ w' s', Inv X pins σ H s' → RelV v w' → Q w' s') :
    wpAny (model X.prog X.w) A (getItem (.ref a) u) Q E s := by
  rcases g with ⟨kvs, k, e, ey, l⟩ | ⟨kvs, k, b, e, ey, eb, l⟩
  · subst ey
    obtain ⟨z, hd, vs, rel, dd⟩ := dk_rd I.hok e
    obtain ⟨w', hw, rw'⟩ := RelO.some_of (v := v) (o := valueAt vs k) (by rw [l]; exact rel.val k)
    exact wpAny_getItem_of (kV_is ry) dd.mapOf hw (h w' _ (I.tok _) rw')
  · subst ey
    cases (show u = Value.ref b from ry)
    obtain ⟨z, hd, xs, rel, dd⟩ := dt_rd I.hok e
    obtain ⟨w', hw, rw'⟩ := RelO.some_of (v := v) (o := (atKey xs k).map (·.2)) (by rw [l]; exact rel.val k)
    obtain ⟨p, hp, hp2⟩ := Option.map_eq_some_iff.mp hw
    refine wpAny_getItem_heap (tupleKind_room_in1 hu) (key_of I.hok eb) dd hp ?_
    rw [hp2]
    exact h w' _ (I.tok _) rw'
/-- y in d -/
theorem d_in {Q : Value → Shared → Prop} (hu : A.units + 1 < cLine) (I : Inv X pins σ H s) (g : DGet H a y o) (ry : RelV y u) (h : ∀ s', Inv X pins σ H s' → Q (.bool o.isSome) s') :
    wpAny (model X.prog X.w) A (compareOp .In u (.ref a)) Q E s := by
  rcases g with ⟨kvs, k, e, ey, l⟩ | ⟨kvs, k, b, e, ey, eb, l⟩
  · subst ey
    obtain ⟨z, hd, vs, rel, dd⟩ := dk_rd I.hok e
    refine wpAny_in_of (kV_is ry) hd dd.mapOf ?_
    rw [← (rel.val k).isSome_eq, ← l]
    exact h _ (I.tok _)
  · subst ey
    cases (show u = Value.ref b from ry)
    obtain ⟨z, hd, xs, rel, dd⟩ := dt_rd I.hok e
    refine wpAny_in_heap (tupleKind_room_in1 hu) (key_of I.hok eb) hd dd ?_
    have q := (rel.val k).isSome_eq
    rw [Option.isSome_map] at q
    rw [← q, ← l]
    exact h _ (I.tok _)
theorem d_notIn {Q : Value → Shared → Prop} (hu : A.units + 1 < cLine) (I : Inv X pins σ H s) (g : DGet H a y o) (ry : RelV y u) (h : ∀ s', Inv X pins σ H s' → Q (.bool (!o.isSome)) s') :
    wpAny (model X.prog X.w) A (compareOp .NotIn u (.ref a)) Q E s := by
  rcases g with ⟨kvs, k, e, ey, l⟩ | ⟨kvs, k, b, e, ey, eb, l⟩
  · subst ey
    obtain ⟨z, hd, vs, rel, dd⟩ := dk_rd I.hok e
    refine wpAny_notIn_of (kV_is ry) hd dd.mapOf ?_
    rw [← (rel.val k).isSome_eq, ← l]
    exact h _ (I.tok _)
  · subst ey
    cases (show u = Value.ref b from ry)
    obtain ⟨z, hd, xs, rel, dd⟩ := dt_rd I.hok e
    refine wpAny_notIn_heap (tupleKind_room_in1 hu) (key_of I.hok eb) hd dd ?_
    have q := (rel.val k).isSome_eq
    rw [Option.isSome_map] at q
    rw [← q, ← l]
    exact h _ (I.tok _)
/-- a dict's object is replaced -/
theorem d_write {h' : Heap} {t' : Nat} {ob : HO} (I : Inv X pins σ H s) (mu : Mut (H a)) (hs : Heap.SameBut a s.heap h') (he : ∃ q, h'.get? a = some q) (new : ObjOk X.prog X.w (upd H a ob) h' a ob) :
    Inv X pins σ (upd H a ob) { s with heap := h', toks := t' } :=
  I.write (x := a) (e := a) mu (.inl rfl) (fun b q hb z => (hs.2 b hb).trans z) he new
theorem dk_new {P : Program} {w : World} {H' : Hp} {h' : Heap} {kvs : List (Key × V)} {vs : List (Key × Value)} (z : kvs.length ≤ sizeLine) (hd : (a == sysModules) = false) (rel : KV kvs vs) (dd : h'.DictOf (mixKind P w) a vs) :
    ObjOk P w H' h' a (.dK kvs) := ⟨z, hd, vs, rel, dd⟩
/-- d[y] = v -/
theorem d_setItem {H' : Hp} {Q : Unit → Shared → Prop} (hu : A.units + 1 < cLine) (I : Inv X pins σ H s) (g : DPut H a y v H') (ry : RelV y u) (rv : RelV v r) (h : ∀ s', Inv X pins σ H' s' → Q () s') :
    wpAny (model X.prog X.w) A (setItem (.ref a) u r) Q E s := by
  rcases g with ⟨kvs, k, e, ey, l, eH⟩ | ⟨kvs, k, b, e, ey, eb, l, eH⟩
  · subst ey eH
    obtain ⟨z, hd, vs, rel, dd⟩ := dk_of I.hok e
    have hz : vs.length ≤ sizeLine := by rw [← rel.length]; exact z
    have hl : (putK kvs k v).length ≤ sizeLine := by have := length_putK kvs k v; omega
    refine wpAny_setItem_pairs (hsz := hz) (kV_is ry) dd fun h' dd' hs => h _ ?_
    have he : ∃ q, h'.get? a = some q := let ⟨q, _, _, hq, _⟩ := dd'; ⟨q, hq⟩
    exact d_write I (by rw [e]; exact True.intro) hs he (dk_new hl hd (rel.put k rv) dd')
  · subst ey eH
    cases (show u = Value.ref b from ry)
    obtain ⟨z, hd, xs, rel, dd⟩ := dt_of I.hok e
    have hz : xs.length ≤ sizeLine := by rw [← Paired.length rel]; exact z
    have hl : (putK kvs k v).length ≤ sizeLine := by have := length_putK kvs k v; omega
    refine wpAny_setItem_heap (hsz := hz) (tupleKind_room_in1 hu) (key_of I.hok eb) dd fun h' dd' hs => h _ ?_
    obtain ⟨q, es, ep, hq, h2, h3, h4, _, h5⟩ := dd'
    refine d_write I (by rw [e]; exact True.intro) hs ⟨q, hq⟩ ⟨hl, hd, _, (rel.put k eb rv).keeps fun c ys ec => ?_, q, es, ep, hq, h2, h3, h4, h5⟩
    rw [upd_ne (ne_of ec e (fun z => nomatch z))]
    exact ec
end
section
variable {X : Cx} {pins : List (Addr × Obj)} {σ : St} {H : Hp} {s : Shared} {a : Addr} {kvs : List (Key × V)} {k : Key} {u : Value} {A : Around} {E : Value → Shared → Prop}
/-- del d[k] -/
theorem d_delItem {Q : Unit → Shared → Prop} (I : Inv X pins σ H s) (e : H a = some (.dK kvs)) (ry : RelV (kV k) u) (l : (valV kvs k).isSome = true) (h : ∀ s', Inv X pins σ (upd H a (.dK (dropK kvs k))) s' → Q () s') :
    wpAny (model X.prog X.w) A (delItem (.ref a) u) Q E s := by
  obtain ⟨z, hd, vs, rel, dd⟩ := dk_of I.hok e
  refine wpAny_delItem_slot dd.typeIs (by decide) PySem.F.slot_dict_delitem
    (call_meetsIn PySem.F.slot_dict_delitem dd.typeIs PySem.F.entry_dict_delitem (PySem.F.args_dict_delitem_2 _ _) (meets_dict_delitem_pairs (mixKind X.prog X.w) a (kV_is ry)) ⟨vs, dd, by rw [← rel.length]; exact z, by rw [← (rel.val k).isSome_eq]; exact l, fun h' dd' hs => h _ ?_⟩)
  have he : ∃ q, h'.get? a = some q := let ⟨q, _, _, hq, _⟩ := dd'; ⟨q, hq⟩
  exact d_write I (by rw [e]; exact True.intro) hs he (dk_new (Nat.le_trans (dropK_le kvs k) z) hd (rel.drop k) dd')
/-- d.pop(k[, x]), there -/
theorem d_pop {v : V} {more : List Value} {Q : Value → Shared → Prop} (I : Inv X pins σ H s) (e : H a = some (.dK kvs)) (ry : RelV (kV k) u) (l : valV kvs k = some v) (hm : more = [] ∨ ∃ x, more = [x])
    (h : ∀ w' s', Inv X pins σ (upd H a (.dK (dropK kvs k))) s' → RelV v w' → Q w' s') : wpAny (model X.prog X.w) A (call (.builtin "dict.pop") (.ref a :: u :: more)) Q E s := by
  obtain ⟨z, hd, vs, rel, dd⟩ := dk_of I.hok e
  obtain ⟨w', hw, rw'⟩ := RelO.some_of (v := v) (o := valueAt vs k) (by rw [← l]; exact rel.val k)
  have hp : (keyPart u).isSome = true := by
    cases k with
    | inl i => obtain ⟨t, q⟩ := (show ∃ t, u = Value.int i t from ry); subst q; rfl
    | inr x => obtain ⟨t, q⟩ := (show ∃ t, u = Value.str x t from ry); subst q; rfl
  have ha : argsOk "dict.pop" ⟨.ref a :: u :: more, []⟩ := by
    rcases hm with q | ⟨x, q⟩
    · subst q; exact PySem.F.args_dict_pop_2 _ _
    · subst q; exact PySem.F.args_dict_pop_3 _ _ _
  refine call_meetsIn PySem.F.slot_dict_pop dd.typeIs PySem.F.entry_dict_pop ha (meets_dict_pop_there (mixKind X.prog X.w) a (kV_is ry) more hm hp)
    ⟨vs, w', dd, by rw [← rel.length]; exact z, hw, fun h' dd' hs => h w' _ ?_ rw'⟩
  have he : ∃ q, h'.get? a = some q := let ⟨q, _, _, hq, _⟩ := dd'; ⟨q, hq⟩
  exact d_write I (by rw [e]; exact True.intro) hs he (dk_new (Nat.le_trans (dropK_le kvs k) z) hd (rel.drop k) dd')
end
/-! ### readings and rules -/
/-- the element of a subscription, not a slice -/
def NoSl (i : Expr) : Prop := ∀ ov iv, subscripted i false ov iv = operate [ov, iv] (getItem ov iv)
theorem subD_of {prog : Program} {w : World} {A : Around} {E : Value → Shared → Prop} {s : Shared} {env : Env} {value slice : Expr} {pos : Pos} {T id : String} {Q : Value → Shared → Prop}
    (hl : typeLookup (.type T) "__getitem__" = pure (some (.builtin id))) (hs : NoSl slice)
    (h : wpAny (model prog w) A (eval value env) (fun o s₁ => wpAny (model prog w) A (eval slice env) (fun i s₂ => s₂.TypeIs o T ∧ wpAny (model prog w) A (getItem o i) Q E s₂) E s₁) E s) :
    wpAny (model prog w) A (eval (.Subscript value slice pos) env) Q E s := by
  refine Subscript_ (wpAny_mono h (fun o s₁ h₁ => wpAny_mono h₁ (fun i s₂ h₂ => ?_) fun _ _ x => x) fun _ _ x => x)
  obtain ⟨hT, h₂⟩ := h₂
  unfold subscriptTail
  refine wpAny_bind ?_
  rw [getitemInPython_of_ne hT.not_modules]
  refine wpAny_bind (wpAny_specialOf hT hl ?_)
  have fin : wpAny (model prog w) A (subscripted slice false o i) (fun r s₃ => wpAny (model prog w) A (letTemporaryGo value o r >>= fun _ => pure r) Q E s₃) E s₂ := by
    rw [hs o i]
    exact wpAny_operating (wpAny_mono h₂ (fun r s₃ h₃ => wpAny_bind (wpAny_letTemporaryGo (wpAny_pure h₃))) fun _ _ x => x)
  first
    | exact wpAny_pure (wpAny_bind fin)
    | exact wpAny_bind (wpAny_pure (wpAny_bind fin))
    | exact wpAny_bind fin
theorem dict_typeIs {X : Cx} {pins : List (Addr × Obj)} {σ : St} {H : Hp} {s : Shared} {a : Addr} {y : V} {o : Option V} (I : Inv X pins σ H s) (g : DGet H a y o) : s.TypeIs (.ref a) "dict" := by
  rcases g with ⟨kvs, k, e, _, _⟩ | ⟨kvs, k, b, e, _, _, _⟩
  · obtain ⟨_, _, vs, _, dd⟩ := dk_rd I.hok e
    exact dd.typeIs
  · obtain ⟨_, _, xs, _, dd⟩ := dt_rd I.hok e
    exact dd.typeIs
/-- d[y] -/
def tDGet (td ty : TE) : TE := fun σ H Q => td σ H fun x H1 => ty σ H1 fun y H2 => ∃ a v, x = .ref a ∧ DGet H2 a y (some v) ∧ Q v H2
/-- y in d, y not in d -/
def tDIn (ty td : TE) : TE := fun σ H Q => ty σ H fun y H1 => td σ H1 fun x H2 => ∃ a o, x = .ref a ∧ DGet H2 a y o ∧ Q (.bl o.isSome) H2
def tDNotIn (ty td : TE) : TE := fun σ H Q => ty σ H fun y H1 => td σ H1 fun x H2 => ∃ a o, x = .ref a ∧ DGet H2 a y o ∧ Q (.bl (!o.isSome)) H2
/-- d[y] = v -/
def sDPut (td ty tv : TE) : TS := fun D σ H => tv σ H fun v H1 => td σ H1 fun x H2 => ty σ H2 fun y H3 => ∃ a H4, x = .ref a ∧ DPut H3 a y v H4 ∧ D.nx σ H4
section
variable {X : Cx} {o i e value : Expr} {pos pos' tpos : Pos} {td ty tv : TE}
theorem pe_dget (hu : X.A.units + 1 < cLine) (ho : PE X o td) (hi : PE X i ty) (hs : NoSl i) : PE X (.Subscript o i pos) (tDGet td ty) := by
  intro pins s σ H Q I h
  refine subD_of PySem.F.slot_dict_getitem.lookup hs (thnE (ho pins s σ H _ I h) fun u s1 x H1 I1 rx q1 => thn (hi pins s1 σ H1 _ I1 q1) fun iv s2 ⟨y, H2, I2, ry, a, v, ex, g, q2⟩ => ?_)
  subst ex
  obtain rfl : u = Value.ref a := rx
  exact ⟨dict_typeIs I2 g, d_getItem hu I2 g ry fun w' s3 I3 rw' => ⟨v, H2, I3, rw', q2⟩⟩
theorem pc_din (hu : X.A.units + 1 < cLine) (hi : PE X i ty) (ho : PE X o td) : PC X .In i o (tDIn ty td) := by
  intro pins s σ H Q I h
  refine thnE (hi pins s σ H _ I h) fun iv s1 y H1 I1 ry q1 => thn (ho pins s1 σ H1 _ I1 q1) fun u s2 ⟨x, H2, I2, rx, a, ov, ex, g, q2⟩ => ?_
  subst ex
  obtain rfl : u = Value.ref a := rx
  exact d_in hu I2 g ry fun s3 I3 => ⟨.bl ov.isSome, H2, I3, rfl, q2⟩
theorem pc_dnotin (hu : X.A.units + 1 < cLine) (hi : PE X i ty) (ho : PE X o td) : PC X .NotIn i o (tDNotIn ty td) := by
  intro pins s σ H Q I h
  refine thnE (hi pins s σ H _ I h) fun iv s1 y H1 I1 ry q1 => thn (ho pins s1 σ H1 _ I1 q1) fun u s2 ⟨x, H2, I2, rx, a, ov, ex, g, q2⟩ => ?_
  subst ex
  obtain rfl : u = Value.ref a := rx
  exact d_notIn hu I2 g ry fun s3 I3 => ⟨.bl (!ov.isSome), H2, I3, rfl, q2⟩
theorem ps_dput (hu : X.A.units + 1 < cLine) (ho : PE X o td) (hi : PE X i ty) (hv : PE X value tv) (hs : swapsWith value (some (.Subscript o i pos')) pos.line X.env = pure false) :
    PS X (.Assign [.Subscript o i pos'] value pos) (sDPut td ty tv) := by
  intro pins s σ H D I h
  refine wpAny_Assign_Subscript (thnE (hv pins s σ H _ I h) fun r s1 v H1 I1 rv q1 => thnE (ho pins s1 σ H1 _ I1 q1) fun u s2 x H2 I2 rx q2 => thn (hi pins s2 σ H2 _ I2 q2) fun iv s3 ⟨y, H3, I3, ry, a, H4, ex, g, q3⟩ => ?_) hs
  subst ex
  obtain rfl : u = Value.ref a := rx
  exact d_setItem hu I3 g ry rv fun s4 I4 => ⟨σ, H4, I4, q3⟩
end
/-! ### displays -/
theorem dk_empty {P : Program} {w : World} {H : Hp} (h : Heap) (hb : sysModules < h.objs.size) : ObjOk P w H (h.push { cls := .type "dict", data := .dict #[] }) h.objs.size (.dK []) :=
  ⟨Nat.zero_le _, beq_eq_false_iff_ne.mpr (Ne.symm (Nat.ne_of_lt hb)), [], .nil, Heap.DictOf.new h⟩
/-- {}, to be a dict of the kind that is wanted -/
def tDNewK : TE := fun _ H Q => ∀ p, H p = none → Q (.ref p) (upd H p (.dK []))
section
variable {X : Cx} {pos : Pos}
theorem pe_dnewK : PE X (.Dict [] [] pos) tDNewK := fun pins s σ H Q I h =>
  wpAny_Dict_empty ⟨.ref s.heap.objs.size, _, I.laid (a := s.heap.objs.size) (o := .dK []) (t' := s.toks) (fun _ _ q => Heap.get?_push_of_some _ q) (Nat.le_refl _) (dk_empty s.heap I.big), rfl, h _ (I.hok.fresh (Nat.le_refl _))⟩
end
/-- the pairs of a display, from the left -/
def tPairs : List (TE × TE) → St → Hp → (List (V × V) → Hp → Prop) → Prop
  | [], _, H, Q => Q [] H
  | (tk, tv) :: r, σ, H, Q => tk σ H fun x H1 => tv σ H1 fun y H2 => tPairs r σ H2 fun ps H3 => Q ((x, y) :: ps) H3
abbrev VV : List (V × V) → List (Value × Value) → Prop := Paired fun p q => RelV p.1 q.1 ∧ RelV p.2 q.2
def PPs (X : Cx) (pos : Pos) (keys : List (Option Expr)) (values : List Expr) (trs : List (TE × TE)) : Prop :=
  ∀ (pins : List (Addr × Obj)) (s : Shared) (σ : St) (H : Hp) (Q : List (V × V) → Hp → Prop), Inv X pins σ H s → tPairs trs σ H Q →
    wpAny (model X.prog X.w) X.A (evalPairs (pairTrees keys values X.env pos)) (fun vs s' => ∃ ps H', Inv X pins σ H' s' ∧ VV ps vs ∧ Q ps H') X.xe s
theorem pps_nil {X : Cx} {pos : Pos} : PPs X pos [] [] [] := fun pins s σ H Q I h => pairTrees_nil_walk ⟨[], H, I, .nil, h⟩
theorem pps_cons {X : Cx} {pos : Pos} {k v : Expr} {ks : List (Option Expr)} {vs : List Expr} {tk tv : TE} {trs : List (TE × TE)} (hk : PE X k tk) (hv : PE X v tv) (hr : PPs X pos ks vs trs) :
    PPs X pos (some k :: ks) (v :: vs) ((tk, tv) :: trs) := fun pins s σ H Q I h =>
  pairTrees_cons_walk (thnE (hk pins s σ H _ I h) fun u s1 x H1 I1 rx q1 => thnE (hv pins s1 σ H1 _ I1 q1) fun w2 s2 y H2 I2 ry q2 =>
    thn (hr pins s2 σ H2 _ I2 q2) fun ws s3 ⟨ps, H3, I3, rel, q3⟩ => ⟨(x, y) :: ps, H3, I3, .cons ⟨rx, ry⟩ rel, q3⟩)
def mergeK (kvs more : List (Key × V)) : List (Key × V) := more.foldl (fun acc kv => putK acc kv.1 kv.2) kvs
theorem KV.merge : ∀ {more : List (Key × V)} {rs : List (Key × Value)} {kvs : List (Key × V)} {vs : List (Key × Value)}, KV more rs → KV kvs vs → KV (mergeK kvs more) (merged vs rs) := by
  intro more rs kvs vs r
  unfold KV at r
  induction r generalizing kvs vs with
  | nil => intro q; exact q
  | @cons p q ps qs h t ih =>
    intro r0
    have e : KV (putK kvs p.1 p.2) (stored vs q.1 q.2) := by
      have := r0.put p.1 h.2
      rw [← h.1]; exact this
    exact ih e
theorem length_mergeK : ∀ (more kvs : List (Key × V)), (mergeK kvs more).length ≤ kvs.length + more.length
  | [], kvs => by show kvs.length ≤ kvs.length + 0; omega
  | p :: r, kvs => by
    have h1 := length_mergeK r (putK kvs p.1 p.2)
    have h2 := length_putK kvs p.1 p.2
    show (mergeK (putK kvs p.1 p.2) r).length ≤ _
    rw [List.length_cons]; omega
theorem carries_of {P : Program} {w : World} : ∀ {kvs : List (Key × V)} {ws : List (Value × Value)}, VV (kvs.map fun kv => (kV kv.1, kv.2)) ws → ∃ rs, Carries (mixKind P w) ws rs ∧ KV kvs rs
  | [], _, r => by rw [List.map_nil] at r; cases r; exact ⟨[], True.intro, .nil⟩
  | p :: kvs, _, r => by
    rw [List.map_cons] at r
    cases r with
    | @cons a b as bs h t =>
      obtain ⟨rs, c, q⟩ := carries_of (P := P) (w := w) t
      obtain ⟨b1, b2⟩ := b
      exact ⟨(p.1, b2) :: rs, ⟨kV_is h.1, rfl, c⟩, .cons ⟨rfl, h.2⟩ q⟩
/-- {k: v, ..} with keys ints and texts; the new dict stands empty while the pairs are made -/
def tDisp (trs : List (TE × TE)) : TE := fun σ H Q => ∀ p, H p = none → tPairs trs σ (upd H p (.dK [])) fun ps H2 => H2 p = some (.dK []) ∧ ∃ kvs : List (Key × V), ps = kvs.map (fun kv => (kV kv.1, kv.2)) ∧ kvs.length ≤ 15 ∧ Q (.ref p) (upd H2 p (.dK (mergeK [] kvs)))
theorem pe_disp {X : Cx} {pos : Pos} {keys : List (Option Expr)} {values : List Expr} {trs : List (TE × TE)} (h : PPs X pos keys values trs) (hall : keys.all (·.isSome) = true) (hl : keys.length = values.length) (h0 : keys ≠ [])
    (h15 : keys.length ≤ 15) : PE X (.Dict keys values pos) (tDisp trs) := by
  intro pins s σ H Q I q
  have hn := I.hok.fresh (Nat.le_refl s.heap.objs.size)
  have I1 := I.laid (a := s.heap.objs.size) (o := .dK []) (h' := s.heap.push { cls := .type "dict", data := .dict #[] }) (t' := s.toks) (fun _ _ q => Heap.get?_push_of_some _ q) (Nat.le_refl _) (dk_empty s.heap I.big)
  refine wpAny_Dict_walk (knd := mixKind X.prog X.w) hall hl h0 h15 (thn (h pins _ σ _ _ I1 (q _ hn)) fun ws s2 ⟨ps, H2, I2, rel, e, kvs, ep, lk, q2⟩ => ?_)
  subst ep
  obtain ⟨rs, c, rk⟩ := carries_of (P := X.prog) (w := X.w) rel
  obtain ⟨z, hd, vs0, r0, dd⟩ := dk_of I2.hok e
  cases r0
  refine ⟨rs, c, dd, fun h' dd' hs => ⟨.ref s.heap.objs.size, _, ?_, rfl, q2⟩⟩
  have hz : (mergeK [] kvs).length ≤ sizeLine := by
    have h1 := length_mergeK kvs []
    rw [List.length_nil] at h1
    rw [sizeLine_eq]; omega
  have he : ∃ q, h'.get? s.heap.objs.size = some q := let ⟨q, _, _, hq, _⟩ := dd'; ⟨q, hq⟩
  exact d_write I2 (by rw [e]; exact True.intro) hs he (dk_new hz hd (rk.merge .nil) dd')
/-! ### methods -/
/-- a method call o.m(e) of a built-in, with one argument: what must be seen of the text -/
structure M1 (X : Cx) (o : Expr) (m : Str) (apos : Pos) (e : Expr) (cpos : Pos) : Prop where
  base : attributeBase o m X.env (eval o X.env) = eval o X.env
  few : ((backTo cpos (starEach [e] X.env)).all (fun x => !x.1) && (backToKw cpos (keywordEach [] X.env)).all (fun x => x.1.isSome)
    && decide (([e] : List Expr).length + ([] : List Keyword).length + (if ([] : List Keyword).isEmpty then 0 else 1) < 30)) = true
  line : (apos.endLine == cpos.line) = true
  trees : backTo cpos (starEach [e] X.env) = [(false, eval e X.env)]
structure M2 (X : Cx) (o : Expr) (m : Str) (apos : Pos) (e f : Expr) (cpos : Pos) : Prop where
  base : attributeBase o m X.env (eval o X.env) = eval o X.env
  few : ((backTo cpos (starEach [e, f] X.env)).all (fun x => !x.1) && (backToKw cpos (keywordEach [] X.env)).all (fun x => x.1.isSome)
    && decide (([e, f] : List Expr).length + ([] : List Keyword).length + (if ([] : List Keyword).isEmpty then 0 else 1) < 30)) = true
  line : (apos.endLine == cpos.line) = true
  trees : backTo cpos (starEach [e, f] X.env) = [(false, eval e X.env), (false, eval f X.env)]
/-- a is a dict, whatever its keys -/
def IsD (H : Hp) (a : Addr) : Prop := (∃ kvs, Rd H a (.dK kvs)) ∨ ∃ kvs, Rd H a (.dT kvs)
theorem isD_at {X : Cx} {pins : List (Addr × Obj)} {σ : St} {H : Hp} {s : Shared} {a : Addr} (I : Inv X pins σ H s) (d : IsD H a) :
    s.TypeIs (.ref a) "dict" ∧ (∀ b, Value.ref a = .ref b → ∃ ob, s.heap.get? b = some ob ∧ ob.dict = none) ∧ (a == sysModules) = false := by
  rcases d with ⟨kvs, e⟩ | ⟨kvs, e⟩
  · obtain ⟨_, hd, vs, _, dd⟩ := dk_rd I.hok e
    refine ⟨dd.typeIs, fun b q => ?_, hd⟩
    cases q
    obtain ⟨ob, _, _, h1, h2, _⟩ := dd
    exact ⟨ob, h1, h2.2.1⟩
  · obtain ⟨_, hd, xs, _, dd⟩ := dt_rd I.hok e
    refine ⟨dd.typeIs, fun b q => ?_, hd⟩
    cases q
    obtain ⟨ob, _, _, h1, h2, _⟩ := dd
    exact ⟨ob, h1, h2.2.1⟩
section
variable {X : Cx} {pins : List (Addr × Obj)} {σ : St} {H : Hp} {s : Shared} {a : Addr} {y d : V} {u r : Value} {o : Option V} {A : Around} {E : Value → Shared → Prop}
/-- d.get(y) -/
theorem d_get1 {Q : Value → Shared → Prop} (hu : A.units + 1 < cLine) (I : Inv X pins σ H s) (g : DGet H a y o) (ry : RelV y u) (h : ∀ w' s', Inv X pins σ H s' → RelV (o.getD .non) w' → Q w' s') :
    wpAny (model X.prog X.w) A (call (.builtin "dict.get") [.ref a, u]) Q E s := by
  rcases g with ⟨kvs, k, e, ey, l⟩ | ⟨kvs, k, b, e, ey, eb, l⟩
  · subst ey
    obtain ⟨z, hd, vs, rel, dd⟩ := dk_rd I.hok e
    refine call_meetsIn PySem.F.slot_dict_get dd.typeIs PySem.F.entry_dict_get (PySem.F.args_dict_get_2 _ _) (meets_dict_get (mixKind X.prog X.w) a (kV_is ry) hd) ⟨_, dd.mapOf, h _ _ (I.tok _) ?_⟩
    rw [l]
    exact (rel.val k).getD rfl
  · subst ey
    cases (show u = Value.ref b from ry)
    obtain ⟨z, hd, xs, rel, dd⟩ := dt_rd I.hok e
    refine call_meetsIn PySem.F.slot_dict_get dd.typeIs PySem.F.entry_dict_get (PySem.F.args_dict_get_2 _ _) (meetsH_dict_get (tupleKind (mixKind X.prog X.w)) a b hd) ⟨tupleKind_room_in1 hu, k, xs, key_of I.hok eb, dd, h _ _ (I.tok _) ?_⟩
    rw [l]
    exact (rel.val k).getD rfl
/-- d.get(y, x) -/
theorem d_get2 {Q : Value → Shared → Prop} (hu : A.units + 1 < cLine) (I : Inv X pins σ H s) (g : DGet H a y o) (ry : RelV y u) (rd : RelV d r) (h : ∀ w' s', Inv X pins σ H s' → RelV (o.getD d) w' → Q w' s') :
    wpAny (model X.prog X.w) A (call (.builtin "dict.get") [.ref a, u, r]) Q E s := by
  rcases g with ⟨kvs, k, e, ey, l⟩ | ⟨kvs, k, b, e, ey, eb, l⟩
  · subst ey
    obtain ⟨z, hd, vs, rel, dd⟩ := dk_rd I.hok e
    refine call_meetsIn PySem.F.slot_dict_get dd.typeIs PySem.F.entry_dict_get (PySem.F.args_dict_get_3 _ _ _) (meets_dict_get_default (mixKind X.prog X.w) a (kV_is ry) hd r) ⟨_, dd.mapOf, h _ _ (I.tok _) ?_⟩
    rw [l]
    exact (rel.val k).getD rd
  · subst ey
    cases (show u = Value.ref b from ry)
    obtain ⟨z, hd, xs, rel, dd⟩ := dt_rd I.hok e
    refine call_meetsIn PySem.F.slot_dict_get dd.typeIs PySem.F.entry_dict_get (PySem.F.args_dict_get_3 _ _ _) (meetsH_dict_get_default (tupleKind (mixKind X.prog X.w)) a b hd r) ⟨tupleKind_room_in1 hu, k, xs, key_of I.hok eb, dd, h _ _ (I.tok _) ?_⟩
    rw [l]
    exact (rel.val k).getD rd
end
def tDGet1 (td ty : TE) : TE := fun σ H Q => td σ H fun x H1 => ∃ a, x = .ref a ∧ IsD H1 a ∧ ty σ H1 fun y H2 => ∃ o, DGet H2 a y o ∧ Q (o.getD .non) H2
def tDGet2 (td ty tx : TE) : TE := fun σ H Q => td σ H fun x H1 => ∃ a, x = .ref a ∧ IsD H1 a ∧ ty σ H1 fun y H2 => tx σ H2 fun z H3 => ∃ o, DGet H3 a y o ∧ Q (o.getD z) H3
/-- d.pop(k): there; d.pop(k, x): there or not -/
def tDPop1 (td ty : TE) : TE := fun σ H Q => td σ H fun x H1 => ∃ a, x = .ref a ∧ IsD H1 a ∧ ty σ H1 fun y H2 => ∃ kvs k v, H2 a = some (.dK kvs) ∧ y = kV k ∧ valV kvs k = some v ∧ Q v (upd H2 a (.dK (dropK kvs k)))
section
variable {X : Cx} {o e f : Expr} {apos cpos : Pos} {td ty tx : TE}
theorem pe_dget1 (hu : X.A.units + 1 < cLine) (ho : PE X o td) (he : PE X e ty) (m : M1 X o "get" apos e cpos) : PE X (.Call (.Attribute o "get" apos) [e] [] cpos) (tDGet1 td ty) := by
  intro pins s σ H Q I h
  refine wpAny_Call_method m.base m.few m.line PySem.F.plainAttrs_dict PySem.F.slot_dict_get PySem.F.type_dict_get (thn (ho pins s σ H _ I h) fun u s1 ⟨x, H1, I1, rx, a, ex, d, q1⟩ => ?_)
  subst ex
  obtain rfl : u = Value.ref a := rx
  obtain ⟨t1, t2, _⟩ := isD_at I1 d
  refine ⟨t1, t2, ?_⟩
  rw [m.trees]
  refine Calls.callWith_builtin rfl (Calls.evalArgs_plain (Calls.spliced_cons (thn (he pins s1 σ H1 _ I1 q1) fun iv s2 ⟨y, H2, I2, ry, ov, g, q2⟩ => Calls.spliced_nil ?_)))
  exact d_get1 hu I2 g ry fun w' s3 I3 rw' => ⟨_, H2, I3, rw', q2⟩
theorem pe_dget2 (hu : X.A.units + 1 < cLine) (ho : PE X o td) (he : PE X e ty) (hf : PE X f tx) (m : M2 X o "get" apos e f cpos) : PE X (.Call (.Attribute o "get" apos) [e, f] [] cpos) (tDGet2 td ty tx) := by
  intro pins s σ H Q I h
  refine wpAny_Call_method m.base m.few m.line PySem.F.plainAttrs_dict PySem.F.slot_dict_get PySem.F.type_dict_get (thn (ho pins s σ H _ I h) fun u s1 ⟨x, H1, I1, rx, a, ex, d, q1⟩ => ?_)
  subst ex
  obtain rfl : u = Value.ref a := rx
  obtain ⟨t1, t2, _⟩ := isD_at I1 d
  refine ⟨t1, t2, ?_⟩
  rw [m.trees]
  refine Calls.callWith_builtin rfl (Calls.evalArgs_plain (Calls.spliced_cons (thnE (he pins s1 σ H1 _ I1 q1) fun iv s2 y H2 I2 ry q2 =>
    Calls.spliced_cons (thn (hf pins s2 σ H2 _ I2 q2) fun fv s3 ⟨z, H3, I3, rz, ov, g, q3⟩ => Calls.spliced_nil ?_))))
  exact d_get2 hu I3 g ry rz fun w' s4 I4 rw' => ⟨_, H3, I4, rw', q3⟩
theorem pe_dpop1 (ho : PE X o td) (he : PE X e ty) (m : M1 X o "pop" apos e cpos) : PE X (.Call (.Attribute o "pop" apos) [e] [] cpos) (tDPop1 td ty) := by
  intro pins s σ H Q I h
  refine wpAny_Call_method m.base m.few m.line PySem.F.plainAttrs_dict PySem.F.slot_dict_pop PySem.F.type_dict_pop (thn (ho pins s σ H _ I h) fun u s1 ⟨x, H1, I1, rx, a, ex, d, q1⟩ => ?_)
  subst ex
  obtain rfl : u = Value.ref a := rx
  obtain ⟨t1, t2, _⟩ := isD_at I1 d
  refine ⟨t1, t2, ?_⟩
  rw [m.trees]
  refine Calls.callWith_builtin rfl (Calls.evalArgs_plain (Calls.spliced_cons (thn (he pins s1 σ H1 _ I1 q1) fun iv s2 ⟨y, H2, I2, ry, kvs, k, v, ea, ey, l, q2⟩ => Calls.spliced_nil ?_)))
  subst ey
  exact d_pop I2 ea ry l (.inl rfl) fun w' s3 I3 rw' => ⟨v, _, I3, rw', q2⟩
end
/-! ### dict(d): a copy -/
section
variable {X : Cx} {pins : List (Addr × Obj)} {σ : St} {H : Hp} {s : Shared} {a : Addr} {kvs : List (Key × V)} {A : Around} {E : Value → Shared → Prop}
end
section
variable {X : Cx} {pins : List (Addr × Obj)} {σ : St} {H : Hp} {s : Shared} {a : Addr} {y : V} {u : Value} {A : Around} {E : Value → Shared → Prop}
end
end L2
namespace Att
open PySem PySem.W PySem.Calls PyProof.Rows
/-! ### the script -/
theorem ints_of_wellAll {P : Params} {h : Heap} : ∀ (ns : List Int) (vs : List Value), WellAll P h vs (ns.map WData.int) → IntsAre vs ns := by
  intro ns
  induction ns with
  | nil =>
    intro vs w
    rw [List.map_nil] at w
    cases w
    exact .nil
  | cons n ns ih =>
    intro vs w
    rw [List.map_cons] at w
    cases w with
    | cons a b =>
      cases a
      exact .cons _ _ (ih _ b)
theorem script_of {l : OpenLaw} {n : Nat} (hn : l.most = some n) {P : Params} {h : Heap} {args : List WData} {vals : List Value}
    (hpre : l.row.toRowW.claim.pre args = true) (hwl : WellAll P h vals args) :
    ∃ a vs ns, vals = [Value.ref a] ∧ args = [WData.list (ns.map WData.int)] ∧ h.get? a = some { cls := .type "list", data := .seq vs.toArray } ∧ IntsAre vs ns ∧ ns.length ≤ n := by
  have hsh : WShape.hasAll [] args [.list .int] = true := (pre_splitW hpre).1
  have hc : l.pre.holds [] { args := args } = true := (pre_splitW hpre).2
  obtain ⟨d, r, rfl, h1, h2⟩ := hasAllW_cons hsh
  obtain rfl := hasAllW_nil h2
  obtain ⟨xs, rfl, h3⟩ := hasW_list h1
  obtain ⟨ns, rfl⟩ := items_int h3
  have hlen : ns.length ≤ n := by
    unfold OpenLaw.pre at hc
    have h4 : (WTm.not (.lt (.lit (.int (n : Int))) (.len (.arg 0)))).holds [] { args := [.list (ns.map .int)] } = true := by
      have h4 := (holds_andW hc).1
      rw [hn] at h4
      exact h4
    have h5 := condW_of h4 (w_not (w_lt w_lit (w_len_list (w_arg rfl))))
    rw [List.length_map] at h5
    refine Nat.le_of_not_lt fun q => ?_
    have q' : (n : Int) < ((ns.length : Nat) : Int) := by omega
    first
      | (rw [decide_eq_true q'] at h5; exact absurd h5 (by decide))
      | (simp at h5; omega)
  cases hwl with
  | cons w1 w2 =>
    cases w2
    cases w1 with
    | list ho hall => exact ⟨_, _, ns, rfl, rfl, ho, ints_of_wellAll ns _ hall, hlen⟩
theorem post_true (l : OpenLaw) (args : List WData) : l.row.toRowW.claim.post args (.bool true) args = true :=
  postW_of (r := l.row.toRowW) (X := (true == true))
    (show WShape.has [] (.bool true) .bool = true by first | rfl | decide | simp [WShape.has, WShape.arms, WShape.armsAll])
    (show (WTm.eq .res (.lit (.bool true))).value [] { args := args, res := some (.bool true), after := args } = some (.bool (true == true)) from w_eq_bool (w_res rfl) w_lit) rfl
/-! ### the attachment: holds_open's last premise (the goal 'hc' behind k_head) from a wpAny of the law's body -/
/-- the same from a codeAny of the CALL (for a layer whose function contracts speak of calls) -/
theorem attach_call {l : OpenLaw} {n : Nat} {q : Program} {loose : List Str} {XP : (Str → Option Value) → Heap → Prop} {YP : World → Heap → Prop} {d : DefRec}
    (hn : l.most = some n) (hdf : d.params.defaults = [])
    (call : ∀ (w : World) (s₀ s₁ : Shared) (mg mb : Str → Option Value) (fa : Addr) (o : Obj) (pm cd doc : Value) (a : Addr) (vs : List Value) (ns : List Int),
      Ground q loose [] XP w s₀ mg mb s₁.heap → YP w s₁.heap →
      s₁.heap.get? fa = some o → o.data = .func (docDef d.name d.params d.body d.scope pm cd doc) → s₁.heap.CodeRec cd d.name → mg d.name = some (.ref fa) →
      s₁.heap.get? a = some { cls := .type "list", data := .seq vs.toArray } → IntsAre vs ns → ns.length ≤ n → s₁.gens = #[] →
      codeAny (model l.prog w) callerA (.call (.ref fa) ⟨[.ref a], []⟩) (fun r s' => r = .ok (.ret (.bool true)) ∧ OldK s₁.heap s'.heap ∧ s'.os = s₁.os ∧ AllBare s'.gens) s₁) :
    WalkO q loose XP YP l.row.toRowW d [] (fun f vs => PySem.call f vs) := by
  intro w s₀ s₁ mg mb G Y fa o pm cd doc dV kV ho hd hcd hD hmg hg args vals as hpre hlay hrd hwl hlo
  obtain rfl : dV = .none := Dflts.none hD hdf
  obtain rfl : kV = .none := Dflts.noKw hD
  obtain ⟨a, vs, ns, rfl, rfl, hobj, hints, hlen⟩ := script_of hn hpre hwl
  refine enter_call (codeAny_mono (call w s₀ s₁ mg mb fa o pm cd doc a vs ns G Y ho (fd_plain hd) hcd hmg hobj hints hlen hg) fun r s' hq => ?_)
  obtain ⟨rfl, h2, h3, h4⟩ := hq
  exact ⟨.inl ⟨.bool true, .bool true, [], rfl, fun _ => rfl, .bool true, post_true l _, fun _ => ⟨List.Pairwise.nil, fun _ hm => (nomatch hm)⟩⟩, h2, h3, h4⟩
/-! ### rules over ANY heap (no ledger) from facts about the written part K: the library's own take a ledger (News) for what they write -/
section
variable {prog : Program} {w : World} {A : Around} {E : Value → Shared → Prop} {s : Shared} {K : Frag}
/-! the whole heap as the ledger: makes every rule that writes through a ledger a rule over any heap -/
end
end Att
namespace L2
open PySem PySem.Spec PyProof.Rows
theorem vals_ints : ∀ {vs : List Value} {ns : List Int}, IntsAre vs ns → Vals (ns.map V.int) vs
  | _, _, .nil => .nil
  | _, _, .cons n t h => .cons ⟨t, rfl⟩ (vals_ints h)
/-- nothing is tracked but the script, known to the object (or it is an object of the module) -/
def Only (H : Hp) : Prop := ∀ b, H b = none ∨ ∃ o xs, H b = some (.frz o (.lst xs))
/-- THE HEAD: the law's promise, at the heap behind the top. F, the promise of the law's def, may use that base is part of the heap (so K.In base, base.Ns mainGlobals mg stand in Mod) -/
theorem law_call {P : Program} {w : World} {K : PySem.W.Frag} {mg mb : Str → Option Value} {CX : CXT} {k : Nat} {fa a : Addr} {fd : FuncData} {x : Str} {sp : Sp} {s₁ : Shared} {vs : List Value} {ns : List Int}
    (KX : K.In s₁.heap) (hns : s₁.heap.Ns mainGlobals mg) (hb : s₁.heap.Ns builtinsNs mb) (hbb : ∀ x : Str, x ≠ "__name__" → mb x = bootBuiltins x) (hlim : s₁.heap.NoLimit) (hg : s₁.gens = #[])
    (ha : s₁.heap.get? a = some { cls := .type "list", data := .seq vs.toArray }) (hi : IntsAre vs ns) (hl : ns.length ≤ sizeLine) (hr : Room k callerA)
    (F : ∀ base : Heap, K.In base → base.Ns mainGlobals mg → FnOk P w K mg base CX k fa fd [x] sp) (hbind : ∀ (s : Shared) (u : Value), BindsTo s fd ⟨[u], []⟩ [(x, u)])
    (hsp : ∀ H : Hp, Only H → SqL K H a (ns.map V.int) → sp [.ref a] H (fun v _ => v = .bl true) fun _ _ _ => False)
    (hCX : ∀ H e s', CX [] H s₁ (fun _ _ _ => False) e s' → False) :
    codeAny (model P w) callerA (.call (.ref fa) ⟨[.ref a], []⟩) (fun r s' => r = .ok (.ret (.bool true)) ∧ OldK s₁.heap s'.heap ∧ s'.os = s₁.os ∧ AllBare s'.gens) s₁ := by
  have rv := vals_ints hi
  have lenV := hi.length
  -- from an abstract heap in which nothing but the script may be tracked
  have core : ∀ H : Hp, Only H → SqL K H a (ns.map V.int) → HOk P w H s₁.heap → (∀ b, H b ≠ none → b = a) → (H a ≠ none → K.lookup a = none) →
      codeAny (model P w) callerA (.call (.ref fa) ⟨[.ref a], []⟩) (fun r s' => r = .ok (.ret (.bool true)) ∧ OldK s₁.heap s'.heap ∧ s'.os = s₁.os ∧ AllBare s'.gens) s₁ := by
    intro H hO hS hok hA hK
    have base_of : ∀ {b : Addr} {o : Obj}, s₁.heap.get? b = some o → H b = none → (hidT s₁.heap H).get? b = some o := fun e n => hidT_get e n
    have noA : ∀ {b : Addr} {o : Obj} {es : Array DictEntry} {ep : Nat}, s₁.heap.get? b = some o → o.data = .dict es ep → H b = none := fun {b o es ep} e d => by
      cases q : H b with
      | none => rfl
      | some u =>
        have e' : b = a := hA b (by rw [q]; simp)
        subst e'
        rw [ha] at e; cases e
        have d' : Data.seq vs.toArray _ = Data.dict es ep := d
        cases d'
    have nsK : ∀ {b : Addr} {m : Str → Option Value}, s₁.heap.Ns b m → (hidT s₁.heap H).Ns b m := fun {b m} ⟨o, es, ep, e, d, r⟩ => ⟨o, es, ep, base_of e (noA e d), d, r⟩
    have hKb : K.In (hidT s₁.heap H) := fun b o e => base_of (KX b o e) (by
      cases q : H b with
      | none => rfl
      | some u =>
        have e' : b = a := hA b (by rw [q]; simp)
        subst e'
        rw [hK (by rw [q]; simp)] at e; cases e)
    have hM : Mod K mg (hidT s₁.heap H) := ⟨hKb, nsK hns, ⟨mb, nsK hb, hbb⟩, let ⟨mc, h1, h2⟩ := hlim; ⟨mc, nsK h1, h2⟩⟩
    have e0 : Env0 P w K mg (hidT s₁.heap H) callerA [] s₁ H := ⟨rfl, hM, fun b o e => of_hidT e, Nat.le_of_eq (hidT_size _ _), trivial, fun b hb => absurd (show b ∈ ([] : List Addr) from hb) (by simp), hok, .of_eq hg⟩
    refine codeAny_mono ((F _ hKb (nsK hns)).run callerA [] s₁ H ⟨[.ref a], []⟩ [.ref a] [.ref a] _ _ hr e0 (hbind s₁ (.ref a)) (.cons rfl .nil) (hsp H hO hS)) fun r s' h => ?_
    cases r with
    | error e => exact (hCX H e s' h).elim
    | ok fl =>
      cases fl with
      | next => exact False.elim h
      | brk => exact False.elim h
      | cont => exact False.elim h
      | ret u =>
        obtain ⟨v, H', os, bare, un, hok', r', q⟩ := h
        have q' : v = .bl true := q
        subst q'
        obtain rfl : u = Value.bool true := r'
        refine ⟨rfl, OldK.of_keep fun b o e => ?_, os, bare⟩
        cases q : H b with
        | none => exact un.keep b o e q (by intro z; exact absurd (show b ∈ ([] : List Addr) from z) (by simp)) (by simp)
        | some u =>
          rcases hO b with z | ⟨ob, xs, z⟩
          · rw [q] at z; cases z
          · have z2 := un.frzs b ob _ z
            obtain ⟨e1, _⟩ := hok b _ z
            obtain ⟨e2, _⟩ := hok' b _ z2
            rw [e] at e1; cases e1
            exact e2
  cases hk : K.lookup a with
  | some o =>
    -- the script is one of the module's own objects
    have e := KX a o hk
    rw [ha] at e
    cases e
    refine core (fun _ => none) (fun _ => .inl rfl) (.inr ⟨_, vs.toArray, _, hk, rfl, rfl, rfl, by rw [List.size_toArray, lenV]; exact hl, by simpa using rv⟩) (fun b u z => by have z' : (none : Option HO) = some u := z; cases z') (fun b z => absurd rfl z) fun z => absurd rfl z
  | none =>
    refine core (fun b => if b = a then some (.frz { cls := .type "list", data := .seq vs.toArray } (.lst (ns.map V.int))) else none) (fun b => ?_) (.inl (.inr ⟨{ cls := .type "list", data := .seq vs.toArray }, if_pos rfl⟩)) (fun b u z => ?_) (fun b z => ?_) fun _ => hk
    · by_cases hb : b = a
      · exact .inr ⟨_, _, if_pos hb⟩
      · exact .inl (if_neg hb)
    · by_cases hb : b = a
      · have z' := (if_pos hb).symm.trans z
        cases z'
        subst hb
        exact ⟨ha, by rw [List.length_map]; exact hl, vs, _, rv, ha⟩
      · have z' := (if_neg hb).symm.trans z
        cases z'
    · by_cases hb : b = a
      · exact hb
      · exact absurd (if_neg hb) z
end L2
namespace L2
open PySem PySem.Spec PyProof.Rows
/-- the goal that k_head leaves (case hc), from the law's promise. F gives the function object fd (K's own) once, then the promise over every base -/
theorem walk_of {l : PySem.W.OpenLaw} {n k : Nat} {q : Program} {loose : List Str} {XP : (Str → Option Value) → Heap → Prop} {YP : World → Heap → Prop} {d : DefRec} {K : Params → PySem.W.Frag} {CX : World → CXT} {sp : World → Sp} {x : Str}
    (hn : l.most = some n) (hn2 : n ≤ sizeLine) (hdf : d.params.defaults = []) (hr : Room k callerA)
    (hY : ∀ (w : World) (h : Heap), YP w h → (K w.params).In h)
    (F : ∀ (w : World) (mg : Str → Option Value) (fa : Addr) (h : Heap), (K w.params).In h → h.Ns mainGlobals mg → mg d.name = some (.ref fa) →
      ∃ fd : FuncData, (∀ (s : Shared) (u : Value), BindsTo s fd ⟨[u], []⟩ [(x, u)]) ∧
        ∀ base : Heap, (K w.params).In base → base.Ns mainGlobals mg → FnOk l.prog w (K w.params) mg base (CX w) k fa fd [x] (sp w))
    (hsp : ∀ (w : World) (H : Hp) (a : Addr) (ns : List Int), ns.length ≤ n → Only H → SqL (K w.params) H a (ns.map V.int) → sp w [.ref a] H (fun v _ => v = .bl true) fun _ _ _ => False)
    (hCX : ∀ (w : World) (H : Hp) (s : Shared) (e : Value) (s' : Shared), CX w [] H s (fun _ _ _ => False) e s' → False) :
    PySem.W.WalkO q loose XP YP l.row.toRowW d [] (fun f vs => PySem.call f vs) := by
  refine Att.attach_call hn hdf fun w s₀ s₁ mg mb fa o pm cd doc a vs ns G Y ho hd hcd hmg hobj hints hlen hg => ?_
  have KX := hY w _ Y
  obtain ⟨fd, hb, hF⟩ := F w mg fa _ KX G.T.g hmg
  exact law_call KX G.T.g G.T.b G.T.builtins G.T.nolimit hg hobj hints (Nat.le_trans hlen hn2) hr hF hb (fun H hO hS => hsp w H a ns hlen hO hS) fun H e s' => hCX w H s₁ e s'
end L2
/- THE LAST THEOREM (shape; LID, My.* are yours):
   My.Adr: a structure of the addresses that your layer names (classes, functions); My.Txt K t: a structure (Prop) of the equations over K;
   My.txt_mk : {K} {implicit addresses ..} (e1 : nsIn K mainGlobals "law" = some (some (.ref f))) (e2 : K.lookup f = some ⟨oc, od, .func (fnOf "law" "law" params body scope dV kV doc pm an cdv ct), sl⟩) (e3 : codeIn K cdv "law" = true) .. : ∃ t, My.Txt K t
set_option maxRecDepth 100000 in
set_option maxHeartbeats 0 in
theorem PySem.Challenge.cw_LID_holds : PySem.Challenge.rw_LID.Holds := by
  w_on; o_law; k_head; (case hw => w_witness2)
  k_fill
  refine L2.walk_of (l := PySem.Challenge.rw_LID) (n := 63) (k := 40) (x := "script") (CX := fun w => ..) (sp := fun _ => My.sp_law) rfl (by decide) rfl ⟨rfl, by decide, by decide⟩ (fun w h Y => PySem.W.kIn_of Y) ?F ?S ?C
  case F =>
    intro w mg fa h KX G hmg
    have T : ∃ t, My.Txt (L2.KOf KX) t := by
      dsimp only [L2.KOf]                          -- K must stand as «<heap const> w.params» for k_is
      refine' My.txt_mk ?e1 ?e2 ?e3 ..
      (case e1 => PySem.W.k_is)                    -- in the order: a name -> its address -> its object -> its parts
      (case e2 => PySem.W.k_is)
      ..
    obtain ⟨t, T⟩ := T
    have e0 := hmg.symm.trans (PySem.W.mg_of KX G T.law)
    cases e0                                       -- fa is the law's own address
    exact ⟨_, fun s u => .of_eq rfl, fun base kb nb => My.law_fn T kb nb⟩     -- if «.of_eq rfl» comes too early: refine' ⟨_, ?b, fun base kb nb => My.law_fn T kb nb⟩; exact fun s u => .of_eq rfl
  case S => exact fun w H a ns hl hO hS => ..
  case C => exact ..
(the tactic k_is has no namespace: write k_is) -/
/-! SHORT WORDS over the layer: a def of the text, its body, what a loop and a test want. -/
namespace L2
open PySem PySem.Spec PyProof.Rows
/-! ### the text by places -/
/-- the j-th statement of a class's body -/
def inClass (s : Stmt) (j : Nat) : Stmt := match s with
  | .ClassDef _ _ _ body _ _ _ _ _ _ _ => body.getD j (.Pass ⟨0, 0, 0, 0⟩)
  | _ => .Pass ⟨0, 0, 0, 0⟩
def defArgs (s : Stmt) : Arguments := match s with
  | .FunctionDef _ a _ _ _ _ _ _ _ _ => a
  | _ => { posonlyargs := [], args := [], vararg := none, kwonlyargs := [], kw_defaults := [], kwarg := none, defaults := [] }
def defBody (s : Stmt) : List Stmt := match s with
  | .FunctionDef _ _ b _ _ _ _ _ _ _ => b
  | _ => []
def defScope (s : Stmt) : Scope := match s with
  | .FunctionDef _ _ _ _ _ _ sc _ _ _ => sc
  | _ => { kind := .function, names := [], isGenerator := false, isCoroutine := false }
/-! ### no exception leaves a def -/
abbrev CX0 : CXT := fun _ _ _ _ _ _ => False
abbrev E0 : XK := fun _ _ _ => False
theorem pass0 {X : Cx} : Passes CX0 X E0 := fun _ _ _ _ _ _ _ h => h.elim
/-! ### a def (or method) of the text as it stands behind the top -/
structure Fun (K : PySem.W.Frag) (x qual : Str) (st : Stmt) (f : Addr) (fd : FuncData) : Prop where
  ex : ∃ (oc : Value) (od : Option Addr) (kV doc pm : Value) (an : Option Addr) (cdv ct : Value) (osl : Array (Option Value)),
    fd = PySem.W.fnOf x qual (defArgs st) (defBody st) (defScope st) .none kV doc pm an cdv ct ∧ K.lookup f = some ⟨oc, od, .func fd, osl⟩ ∧ PySem.W.codeIn K cdv qual = true
  kp : PySem.W.keepIn K (.ref f) = true
section
variable {P : Program} {w : World} {K : PySem.W.Frag} {mg : Str → Option Value} {base : Heap}
/-- THE RULE for a def: its body as a term of rules, and the reading of that term -/
theorem Fun.ok {x qual : Str} {st : Stmt} {f : Addr} {fd : FuncData} {N ps : List Str} {k : Nat} {sp : Sp} (F : Fun K x qual st f fd) (S : FnScope N ps (defScope st)) (len : ∀ vs H Q E, sp vs H Q E → vs.length = ps.length)
    (hbody : ∀ (cdv : Value) (A : Around) (outer : List Env) (s : Shared) (H : Hp) (vs : List V) (Q : VK) (E : XK), Room k (A.deeper (envOfC qual (defScope st) s.heap.objs.size f cdv)) → sp vs H Q E →
      ∃ t, PSs (cxOf CX0 P w K mg base N qual (defScope st) f cdv A outer s H E).nox (defBody st) t ∧ t { nx := fun _ H' => Q .non H', rt := Q } (start N vs) H) : FnOk P w K mg base CX0 (k + 1) f fd ps sp := by
  obtain ⟨oc, od, kV, doc, pm, an, cdv, ct, osl, rfl, lk, hcd⟩ := F.ex
  refine fn_of lk hcd S len fun A outer s H vs Q E hr hsp => ?_
  obtain ⟨t, h, q⟩ := hbody cdv A outer s H vs Q E hr hsp
  exact ⟨t, h.nox, q⟩
/-- how its arguments bind (no defaults): h is «fun _ _ _ _ _ _ us hl => match us, hl with | [_, _], _ => rfl», one _ a parameter -/
theorem Fun.binds {x qual : Str} {st : Stmt} {f : Addr} {fd : FuncData} {ps : List Str} (F : Fun K x qual st f fd)
    (h : ∀ (kV doc pm : Value) (an : Option Addr) (cdv ct : Value) (us : List Value), us.length = ps.length → bindArgs (PySem.W.fnOf x qual (defArgs st) (defBody st) (defScope st) .none kV doc pm an cdv ct) ⟨us, []⟩ = pure (ps.zip us)) : Binds K fd ps [] := by
  obtain ⟨oc, od, kV, doc, pm, an, cdv, ct, osl, rfl, lk, hcd⟩ := F.ex
  exact .all (h kV doc pm an cdv ct)
theorem fun_mk {x qual : Str} {st : Stmt} {f : Addr} {oc : Value} {od an : Option Addr} {osl : Array (Option Value)} {kV doc pm cdv ct : Value} (l : K.lookup f = some ⟨oc, od, .func (PySem.W.fnOf x qual (defArgs st) (defBody st) (defScope st) .none kV doc pm an cdv ct), osl⟩)
    (c : PySem.W.codeIn K cdv qual = true) (k : PySem.W.keepIn K (.ref f) = true) : Fun K x qual st f (PySem.W.fnOf x qual (defArgs st) (defBody st) (defScope st) .none kV doc pm an cdv ct) := ⟨⟨oc, od, kV, doc, pm, an, cdv, ct, osl, rfl, l, c⟩, k⟩
end
theorem hu_of {A : Around} {k : Nat} (hr : Room k A) : A.units + 1 < cLine := Nat.lt_of_le_of_lt (Nat.add_le_add_left (by decide : 1 ≤ 64) _) hr.units
/-! ### expressions in short: the name that stands in the i-th slot -/
section
variable {X : Cx}
theorem pv (i : Nat) {x : Str} {pos : Pos} (hN : X.N[i]? = some x := by rfl) (hv : Vis X.env.scope x := by first | exact Or.inl rfl | exact Or.inr (Or.inl rfl) | exact Or.inr (Or.inr rfl)) (hd : (x == ("__debug__" : Str)) = false := by decide)
    (hcd : (x == ("__classdict__" : Str)) = false := by decide) : PE X (.Name x pos) (tVar i) := pe_var hN hv hd hcd
end
/-! ### tests -/
theorem iteF {A B : Prop} (h : B) : if false = true then A else B := by
  rw [if_neg Bool.false_ne_true]
  exact h
theorem iteT {A B : Prop} (h : A) : if true = true then A else B := by
  rw [if_pos rfl]
  exact h
theorem ite2 {c A B : Prop} [Decidable c] (h1 : c → A) (h2 : ¬ c → B) : if c then A else B := by
  by_cases h : c
  · rw [if_pos h]
    exact h1 h
  · rw [if_neg h]
    exact h2 h
theorem iteNS {c A B : Prop} [Decidable c] (hc : c) (h : B) : if (!decide c) = true then A else B := by
  rw [decide_eq_true hc]
  exact iteF h
/-! ### heaps -/
/-- all that was tracked is as it was -/
def Same (H H' : Hp) : Prop := ∀ b o, H b = some o → H' b = some o
theorem Same.trans {H H1 H2 : Hp} (a : Same H H1) (b : Same H1 H2) : Same H H2 := fun c o h => b c o (a c o h)
theorem Same.free {H H' : Hp} (e : Same H H') {l : Addr} (h : H' l = Option.none) : H l = Option.none := by
  cases q : H l with
  | none => rfl
  | some o =>
    rw [e l o q] at h
    cases h
theorem Same.seq {K : PySem.W.Frag} {H H' : Hp} {a : Addr} {xs : List V} (e : Same H H') (h : SqL K H a xs) : SqL K H' a xs := by
  rcases h with (h | ⟨o, h⟩) | h
  · exact .inl (.inl (e _ _ h))
  · exact .inl (.inr ⟨o, e _ _ h⟩)
  · exact .inr h
/-! ### a dict's pairs: keys that differ -/
section
variable {κ : Type} [DecidableEq κ]
theorem valV_not {kvs : List (κ × V)} {k : κ} (h : valV kvs k = none) : ¬ k ∈ kvs.map (·.1) := by
  intro m
  obtain ⟨p, hp, e⟩ := List.mem_map.mp m
  have q : (kvs.any fun kv => decide (kv.1 = k)) = true := List.any_eq_true.mpr ⟨p, hp, decide_eq_true e⟩
  rw [valV_any, h] at q
  exact absurd q (by simp)
theorem valV_in {kvs : List (κ × V)} {k : κ} {v : V} (h : valV kvs k = some v) : k ∈ kvs.map (·.1) := by
  have q : (kvs.any fun kv => decide (kv.1 = k)) = true := by
    rw [valV_any, h]
    all_goals rfl
  obtain ⟨p, hp, e⟩ := List.any_eq_true.mp q
  exact List.mem_map.mpr ⟨p, hp, of_decide_eq_true e⟩
end
end L2

set_option autoImplicit false
set_option maxRecDepth 100000
set_option linter.all false
namespace TS
open PySem PySem.W PyProof.Rows
/-- what a tree of questions ends in where f answers, and it asks of numbers below N alone -/
def All (f : Nat → Nat → Bool) (N : Nat) {α : Type} : KasT α → (α → Prop) → Prop
  | .ret a, Q => Q a
  | .ask i j k, Q => i < N ∧ j < N ∧ All f N (k (f i j)) Q
section
variable {f : Nat → Nat → Bool} {N : Nat} {α β : Type}
theorem All.bind {g : α → KasT β} {Q : β → Prop} : ∀ {t : KasT α}, All f N t (fun a => All f N (g a) Q) → All f N (t.bind g) Q
  | .ret _, h => h
  | .ask i j k, h => ⟨h.1, h.2.1, All.bind (t := k (f i j)) h.2.2⟩
theorem All.ite {c : Prop} [Decidable c] {t u : KasT α} {Q : α → Prop} (h1 : c → All f N t Q) (h2 : ¬ c → All f N u Q) : All f N (if c then t else u) Q := by
  by_cases h : c
  · rw [if_pos h]; exact h1 h
  · rw [if_neg h]; exact h2 h
end
section
variable {O : KeyOrd} (g : Nat → O.α)
/-- the key at a place -/
def Kp (p : Array Nat) (i : Nat) : O.α := g (p.getD i 0)
def Up (p : Array Nat) (m : Nat) : Prop := ∀ i j, i ≤ j → j < m → O.kle (Kp g p i) (Kp g p j)
def Dn (p : Array Nat) (m : Nat) : Prop := ∀ i j, i ≤ j → j < m → O.kle (Kp g p j) (Kp g p i)
def Pm (N : Nat) (p : Array Nat) : Prop := p.Perm (List.toArray (List.range N))
abbrev fg (i j : Nat) : Bool := O.blt (g i) (g j)
end
section
variable {O : KeyOrd} {g : Nat → O.α} {N : Nat} {p q : Array Nat}
theorem ko {a b : O.α} (h : ¬ O.blt a b = true) : O.kle b a := eq_false_of_ne_true h
theorem Kp_congr {i j : Nat} (h : p[i]? = q[j]?) : Kp g p i = Kp g q j := by
  unfold Kp
  rw [Array.getD_eq_getD_getElem?, Array.getD_eq_getD_getElem?, h]
theorem Pm.size (h : Pm N p) : p.size = N := (Array.Perm.size_eq h).trans (by simp)
theorem Pm.lt (h : Pm N p) (hN : 0 < N) (i : Nat) : p.getD i 0 < N := by
  rw [Array.getD_eq_getD_getElem?]
  cases e : p[i]? with
  | none => exact hN
  | some x =>
    have m := (Array.Perm.mem_iff h).mp (Array.mem_of_getElem? e)
    exact List.mem_range.mp (List.mem_toArray.mp m)
theorem Pm.rev (h : Pm N p) {i j : Nat} : Pm N (kas_rev p i j) := (mirror_perm _ _ _ _).trans h
theorem Up.more {m : Nat} (h : Up g p m) (h0 : 0 < m) (k : O.kle (Kp g p (m - 1)) (Kp g p m)) : Up g p (m + 1) := fun i j hij hj => by
  rcases Nat.lt_or_ge j m with a | a
  · exact h i j hij a
  · cases Nat.le_antisymm (Nat.le_of_lt_succ hj) a
    rcases Nat.lt_or_ge i m with b | b
    · exact KeyOrd.kle_trans (h i _ (Nat.le_sub_one_of_lt b) (Nat.sub_one_lt_of_lt h0)) k
    · cases Nat.le_antisymm hij b
      exact KeyOrd.kle_refl _
theorem Dn.more {m : Nat} (h : Dn g p m) (h0 : 0 < m) (k : O.kle (Kp g p m) (Kp g p (m - 1))) : Dn g p (m + 1) := fun i j hij hj => by
  rcases Nat.lt_or_ge j m with a | a
  · exact h i j hij a
  · cases Nat.le_antisymm (Nat.le_of_lt_succ hj) a
    rcases Nat.lt_or_ge i m with b | b
    · exact KeyOrd.kle_trans k (h i _ (Nat.le_sub_one_of_lt b) (Nat.sub_one_lt_of_lt h0))
    · cases Nat.le_antisymm hij b
      exact KeyOrd.kle_refl _
theorem Up.one : Up g p 1 := fun i j hij hj => by
  cases Nat.lt_one_iff.mp hj
  cases Nat.le_zero.mp hij
  exact KeyOrd.kle_refl _
theorem Dn.congr {m : Nat} (h : Dn g p m) (e : ∀ k, Kp g q k = Kp g p k) : Dn g q m := fun i j a b => by
  rw [e, e]; exact h i j a b
theorem Kp_rev {i j : Nat} (hj : j ≤ p.size) (k : Nat) : Kp g (kas_rev p i j) k = if i ≤ k ∧ k < j then Kp g p (i + j - 1 - k) else Kp g p k := by
  have e := getElem?_mirror_all (i := i) hj k
  by_cases h1 : i ≤ k ∧ k < j
  · rw [if_pos h1] at e ⊢; exact Kp_congr e
  · rw [if_neg h1] at e ⊢; exact Kp_congr e
theorem Kp_rev_eq {i j : Nat} (hj : j ≤ p.size) (h : ∀ k, i ≤ k → k < j → Kp g p k = Kp g p (j - 1)) (k : Nat) : Kp g (kas_rev p i j) k = Kp g p k := by
  rw [Kp_rev hj]
  split
  · rename_i c
    have a : i ≤ i + j - 1 - k := by omega
    have b : i + j - 1 - k < j := by omega
    rw [h _ a b, h k c.1 c.2]
  · rfl
theorem Dn.flip {m : Nat} (h : Dn g p m) (hm : m ≤ p.size) : Up g (kas_rev p 0 m) m := fun i j a b => by
  rw [Kp_rev hm, Kp_rev hm, if_pos ⟨Nat.zero_le _, Nat.lt_of_le_of_lt a b⟩, if_pos ⟨Nat.zero_le _, b⟩]
  exact h _ _ (Nat.sub_le_sub_left a _) (by omega)
theorem all_asc (hp : Pm N p) (hN : 0 < N) {Q : Nat → Prop} : ∀ (u n : Nat), 1 ≤ n → Up g p n → (∀ m, n ≤ m → m ≤ n + u → Up g p m → (m = n + u ∨ O.klt (Kp g p m) (Kp g p (m - 1))) → Q m) → All (fg g) N (kas_asc p u n) Q
  | 0, n, _, hs, h => h n (Nat.le_refl _) (Nat.le_refl _) hs (.inl rfl)
  | u + 1, n, h1, hs, h => ⟨hp.lt hN _, hp.lt hN _, All.ite (fun c => h n (Nat.le_refl _) (Nat.le_add_right _ _) hs (.inr c)) fun c => all_asc hp hN u (n + 1) (Nat.le_add_left _ _) (hs.more h1 (ko c)) fun m a b => by
      rw [Nat.add_right_comm] at b ⊢
      exact h m (Nat.le_of_succ_le a) b⟩
structure DI (g : Nat → O.α) (N : Nat) (p : Array Nat) (n q : Nat) : Prop where
  pm : Pm N p
  dn : Dn g p n
  le : q + 1 ≤ n
  eq : ∀ i, n - (q + 1) ≤ i → i < n → Kp g p i = Kp g p (n - 1)
theorem DI.zero {n : Nat} (hp : Pm N p) (d : Dn g p (n + 1)) : DI g N p (n + 1) 0 := ⟨hp, d, Nat.le_add_left _ _, fun i a b => by cases Nat.le_antisymm (Nat.le_of_lt_succ b) a; rfl⟩
theorem DI.same {n q : Nat} (d : DI g N p n q) (hn : n ≤ N) : ∀ k, Kp g (kas_rev p (n - (q + 1)) n) k = Kp g p k := Kp_rev_eq (by rw [d.pm.size]; exact hn) d.eq
theorem all_desc (hN : 0 < N) {Q : Array Nat × Nat × Nat → Prop} : ∀ (u : Nat) (p : Array Nat) (n q : Nat), DI g N p n q → n + u ≤ N → (∀ p' m q', DI g N p' m q' → n ≤ m → m ≤ N → Q (p', m, q')) → All (fg g) N (kas_desc u p n q) Q
  | 0, p, n, q, d, hu, h => h p n q d (Nat.le_refl _) hu
  | u + 1, p, n, q, d, hu, h => by
    have hn : n ≤ N := Nat.le_trans (Nat.le_add_right _ _) hu
    have hu' : n + 1 + u ≤ N := by rw [Nat.add_right_comm]; exact hu
    have pos : 0 < n := Nat.lt_of_lt_of_le (Nat.succ_pos _) d.le
    have rest : ∀ p' m q', DI g N p' m q' → n + 1 ≤ m → m ≤ N → Q (p', m, q') := fun p' m q' d' a b => h p' m q' d' (Nat.le_of_succ_le a) b
    refine ⟨d.pm.lt hN _, d.pm.lt hN _, All.ite (fun c => ?_) fun c => ⟨d.pm.lt hN _, d.pm.lt hN _, All.ite (fun _ => h p n q d (Nat.le_refl _) hn) fun c2 => ?_⟩⟩
    · have z := d.dn.more pos (KeyOrd.kle_of_klt c)
      exact All.ite (fun _ => all_desc hN u _ (n + 1) 0 (.zero d.pm.rev (z.congr (d.same hn))) hu' rest) fun _ => all_desc hN u p (n + 1) 0 (.zero d.pm z) hu' rest
    · refine all_desc hN u p (n + 1) (q + 1) ⟨d.pm, d.dn.more pos (ko c2), Nat.succ_le_succ d.le, fun i a b => ?_⟩ hu' rest
      rcases Nat.lt_or_ge i n with x | x
      · exact (d.eq i (by omega) x).trans (KeyOrd.kle_antisymm (ko c) (ko c2))
      · cases Nat.le_antisymm (Nat.le_of_lt_succ b) x
        rfl
section
variable {Q : Nat × Array Nat → Prop} (h : ∀ m p', Pm N p' → 1 ≤ m → m ≤ N → Up g p' m → Q (m, p'))
include h
theorem all_tail3 {n : Nat} (hN : 0 < N) (hp : Pm N p) (d : Dn g p n) (h1 : 1 ≤ n) (hn : n ≤ N) : All (fg g) N (kas_tail3 n N p) Q :=
  All.bind (all_asc hp.rev hN (N - n) n h1 (d.flip (by rw [hp.size]; exact hn)) fun m a b s _ => h m _ hp.rev (Nat.le_trans h1 a) (by rw [Nat.add_sub_cancel' hn] at b; exact b) s)
theorem all_descPart {n : Nat} (hN : 0 < N) (hp : Pm N p) (d : Dn g p (n + 1)) (hn : n + 1 ≤ N) : All (fg g) N (kas_descPart n N p) Q :=
  All.bind (all_desc hN _ p (n + 1) 0 (.zero hp d) (Nat.le_of_eq (Nat.add_sub_cancel' hn)) fun p' m q d a b => All.ite
    (fun _ => all_tail3 h hN d.pm.rev (d.dn.congr (d.same b)) (Nat.le_trans (Nat.le_add_left _ _) a) b) fun _ => all_tail3 h hN d.pm d.dn (Nat.le_trans (Nat.le_add_left _ _) a) b)
theorem all_count (hN : 0 < N) (hp : Pm N p) : All (fg g) N (kas_count N p) Q :=
  All.bind (all_asc hp hN (N - 1) 1 (Nat.le_refl _) Up.one fun n a b s o => by
    rw [Nat.add_sub_cancel' hN] at b o
    refine All.ite (fun _ => h n p hp a b s) fun ne => ?_
    have hlt : n < N := Nat.lt_of_le_of_ne b fun e => ne (by rw [e]; exact beq_self_eq_true _)
    have k := o.resolve_left (Nat.ne_of_lt hlt)
    refine All.ite (fun n1 => ⟨hp.lt hN _, hp.lt hN _, All.ite (fun _ => h n p hp a b s) fun c => ?_⟩) fun n1 => ?_
    · have hall : ∀ k, k < n → Kp g p k = Kp g p (n - 1) := fun k hk => KeyOrd.kle_antisymm (s k _ (Nat.le_sub_one_of_lt hk) (Nat.sub_one_lt_of_lt a)) (KeyOrd.kle_trans (ko c) (s 0 k (Nat.zero_le _) hk))
      have d : Dn g p n := fun i j x y => by rw [hall i (Nat.lt_of_le_of_lt x y), hall j y]; exact KeyOrd.kle_refl _
      exact all_descPart h hN hp.rev ((d.more a (KeyOrd.kle_of_klt k)).congr (Kp_rev_eq (by rw [hp.size]; exact b) fun k _ => hall k)) hlt
    · cases Nat.le_antisymm (Nat.le_of_not_lt n1) a
      exact all_descPart h hN hp (Dn.more (fun i j x y => Up.one j i (by cases Nat.lt_one_iff.mp y; exact Nat.zero_le _) (Nat.lt_of_le_of_lt x y)) Nat.one_pos (KeyOrd.kle_of_klt k)) hlt)
end
theorem all_place {k : Nat} (hp : Pm N p) (hN : 0 < N) (hs : Up g p k) {Q : Nat → Prop} (h : ∀ m, m ≤ k → (∀ i, i < m → O.kle (Kp g p i) (Kp g p k)) → (∀ i, m ≤ i → i < k → O.kle (Kp g p k) (Kp g p i)) → Q m) :
    ∀ (u l r : Nat), l ≤ r → r ≤ k → r ≤ l + u → (∀ i, i < l → O.kle (Kp g p i) (Kp g p k)) → (∀ i, r ≤ i → i < k → O.kle (Kp g p k) (Kp g p i)) → All (fg g) N (kas_place p k u l r) Q
  | 0, l, r, hlr, hrk, hu, a, b => by
    cases Nat.le_antisymm hlr hu
    exact h _ hrk a b
  | u + 1, l, r, hlr, hrk, hu, a, b => All.ite (fun e => by cases Nat.le_antisymm hlr e; exact h _ hrk a b) fun e => by
    have m1 : l ≤ (l + r) / 2 := by omega
    have m2 : (l + r) / 2 < r := by omega
    refine ⟨hp.lt hN _, hp.lt hN _, All.ite (fun c => ?_) fun c => ?_⟩
    · exact all_place hp hN hs h u l _ m1 (Nat.le_trans (Nat.le_of_lt m2) hrk) (by omega) a fun i x y => KeyOrd.kle_trans (KeyOrd.kle_of_klt c) (hs _ i x y)
    · exact all_place hp hN hs h u _ r m2 hrk (by omega) (fun i x => KeyOrd.kle_trans (hs i _ (Nat.le_of_lt_succ x) (Nat.lt_of_lt_of_le m2 hrk)) (ko c)) b
theorem Up.ins {k m : Nat} (hk : k < p.size) (hm : m ≤ k) (hs : Up g p k) (a : ∀ i, i < m → O.kle (Kp g p i) (Kp g p k)) (b : ∀ i, m ≤ i → i < k → O.kle (Kp g p k) (Kp g p i)) : Up g (bubble p k (k - m)) (k + 1) := by
  have e := getElem?_bubble hk (k - m) (Nat.sub_le _ _)
  rw [Nat.sub_sub_self hm] at e
  have lo : ∀ {x}, x < m → Kp g (bubble p k (k - m)) x = Kp g p x := fun {x} q => by
    have := e x
    rw [if_neg (Nat.ne_of_lt q), if_neg fun z => Nat.lt_asymm q z.1] at this
    exact Kp_congr this
  have at_ : Kp g (bubble p k (k - m)) m = Kp g p k := by
    have := e m
    rw [if_pos rfl] at this
    exact Kp_congr this
  have hi : ∀ {x}, m < x → x ≤ k → Kp g (bubble p k (k - m)) x = Kp g p (x - 1) := fun {x} q r => by
    have := e x
    rw [if_neg (Nat.ne_of_gt q), if_pos ⟨q, r⟩] at this
    exact Kp_congr this
  intro i j hij hj
  have hj := Nat.le_of_lt_succ hj
  rcases Nat.lt_trichotomy j m with q | rfl | q
  · rw [lo q, lo (Nat.lt_of_le_of_lt hij q)]
    exact hs i j hij (Nat.lt_of_lt_of_le q hm)
  · rw [at_]
    rcases Nat.lt_or_eq_of_le hij with r | rfl
    · rw [lo r]; exact a i r
    · rw [at_]; exact KeyOrd.kle_refl _
  · rw [hi q hj]
    have hj1 : j - 1 < k := Nat.lt_of_lt_of_le (Nat.sub_one_lt_of_lt q) hj
    rcases Nat.lt_trichotomy i m with r | rfl | r
    · rw [lo r]; exact hs i _ (Nat.le_sub_one_of_lt (Nat.lt_trans r q)) hj1
    · rw [at_]; exact b _ (Nat.le_sub_one_of_lt q) hj1
    · rw [hi r (Nat.le_trans hij hj)]; exact hs _ _ (Nat.sub_le_sub_right hij 1) hj1
theorem all_bin (hN : 0 < N) {Q : Array Nat → Prop} : ∀ (u : Nat) (p : Array Nat) (k : Nat), Pm N p → Up g p k → k + u ≤ N → (∀ p', Pm N p' → Up g p' (k + u) → Q p') → All (fg g) N (kas_bin u p k) Q
  | 0, p, k, hp, hs, _, h => h p hp hs
  | u + 1, p, k, hp, hs, hu, h => All.bind (all_place hp hN hs (fun m hm a b => all_bin hN u _ (k + 1) ((bubble_perm _ _ _).trans hp) (Up.ins (by rw [hp.size]; omega) hm hs a b) (by rw [Nat.add_right_comm]; exact hu) fun p' x y => h p' x (by rw [Nat.add_right_comm] at y; exact y))
      k 0 k (Nat.zero_le _) (Nat.le_refl _) (Nat.le_of_eq (Nat.zero_add _).symm) (fun i x => absurd x (Nat.not_lt_zero _)) fun i x y => absurd y (Nat.not_lt.mpr x))
theorem all_sort (hN : 0 < N) : All (fg g) N (kas_sort N) fun p => Pm N p ∧ Up g p N := by
  refine All.bind (all_count (g := g) (fun m p hp h1 hm s => All.ite (fun _ => ?_) fun e => ?_) hN (Array.Perm.refl _))
  · show All _ _ (kas_bin (N - max m 1) p (max m 1)) _
    rw [Nat.max_eq_left h1]
    exact all_bin hN _ p m hp s (Nat.le_of_eq (Nat.add_sub_cancel' hm)) fun p' x y => ⟨x, by rw [Nat.add_sub_cancel' hm] at y; exact y⟩
  · cases Nat.le_antisymm hm (Nat.le_of_not_lt e)
    exact ⟨hp, s⟩
end
/-! ### the run itself -/
section
variable {f : Nat → Nat → Bool} {N : Nat} {α : Type} {cmp : Nat → Nat → (Bool → Shared → Prop) → Shared → Prop} {s : Shared}
theorem All.wp {Q : α → Prop} {G : α → Shared → Prop} (hc : ∀ i j (C : Bool → Shared → Prop), i < N → j < N → C (f i j) s → cmp i j C s) (q : ∀ a, Q a → G a s) : ∀ {t : KasT α}, All f N t Q → t.kasWp cmp G s
  | .ret a, h => q a h
  | .ask i j k, h => hc i j _ h.1 h.2.1 (All.wp hc q (t := k (f i j)) h.2.2)
end
theorem getD_at {vs : List Value} {i : Nat} (h : i < vs.length) : vs.getD i Value.none = vs[i] := by
  rw [List.getD_eq_getElem?_getD, List.getElem?_eq_getElem h]
  rfl
theorem range_getD (vs : List Value) : (List.range vs.length).map (fun i => vs.getD i Value.none) = vs := by
  refine List.ext_getElem (by simp) fun i h1 h2 => ?_
  rw [List.getElem_map, List.getElem_range, getD_at h2]
theorem mem_getD {vs : List Value} {i : Nat} (h : i < vs.length) : vs.getD i Value.none ∈ vs := by
  rw [getD_at h]
  exact List.getElem_mem h
section
variable {prog : Program} {w : World} {A : Around} {E : Value → Shared → Prop} {s : Shared} {O : KeyOrd} {kof : Value → O.α}
theorem wp_run {vs : List Value} {κ : SortKind} {Q : SortSt → Shared → Prop} (h2 : 2 ≤ vs.length) (h64 : vs.length < 64)
    (hc : ∀ x y, x ∈ vs → y ∈ vs → ∀ C : Bool → Shared → Prop, C (O.blt (kof x) (kof y)) s → wpAny (model prog w) A (keyLt' κ x y) C (fun _ _ => False) s)
    (h : ∀ st' : SortSt, failedOf st' = none → ((arrOf st').map (·.2)).toList.Perm vs → (((arrOf st').map (·.2)).toList.Pairwise fun x y => O.kle (kof x) (kof y)) → Q st' s) :
    wpAny (model prog w) A ((sortRuns').run (SortSt.mk' κ (vs.toArray.zip vs.toArray) #[] 7 none)) (fun r s' => Q r.2 s') E s := by
  refine kat_run (G := fun p s' => s' = s ∧ Pm vs.length p ∧ Up (fun i => kof (vs.getD i Value.none)) p vs.length) rfl h2 h64 (fun p st' s' _ ha hf hG => ?_)
    (All.wp (f := fg fun i => kof (vs.getD i Value.none)) (N := vs.length) (fun i j C hi hj q => hc _ _ (mem_getD hi) (mem_getD hj) C q) (fun p hp => ⟨rfl, hp⟩) (all_sort (by omega)))
  obtain ⟨rfl, pm, up⟩ := hG
  have e : ((arrOf st').map (·.2)).toList = p.toList.map fun i => vs.getD i Value.none := congrArg Array.toList (kat_snds (vs := vs) rfl ha)
  refine h st' hf ?_ ?_
  · rw [e]
    have := (Array.perm_iff_toList_perm.mp pm).map fun i => vs.getD i Value.none
    rw [range_getD] at this
    exact this
  · rw [e, List.pairwise_map, List.pairwise_iff_getElem]
    intro i j hi hj hij
    have := up i j (Nat.le_of_lt hij) (by rw [← pm.size]; simpa using hj)
    have k : ∀ {x : Nat} (hx : x < p.toList.length), p.getD x 0 = p.toList[x] := fun {x} hx => by
      have hx' : x < p.size := by simpa using hx
      simp [Array.getD, hx']
    unfold Kp at this
    rw [k hi, k hj] at this
    exact this
end
end TS

set_option autoImplicit false
set_option maxRecDepth 100000
set_option linter.all false
namespace TS
open PySem PyProof.Rows
section
variable {prog : Program} {w : World} {A : Around} {E : Value → Shared → Prop} {s : Shared} {O : KeyOrd} {kof : Value → O.α} {V : Value → Prop} {k0 : SortKind}
/-- the comparison at hand: among values of V it answers by their keys, and nothing else happens -/
def Cmp (prog : Program) (w : World) (A : Around) (s : Shared) (O : KeyOrd) (kof : Value → O.α) (V : Value → Prop) (k0 : SortKind) : Prop :=
  ∀ x y : Value, V x → V y → ∀ Q : Bool → Shared → Prop, Q (O.blt (kof x) (kof y)) s → wpAny (model prog w) A (keyLt' k0 x y) Q (fun _ _ => False) s
/-- the heaps between: all that was there is there -/
def Grown (h h' : Heap) : Prop := ∀ b o, h.get? b = some o → h'.get? b = some o
theorem pw_short {R : Value → Value → Prop} : ∀ {vs : List Value}, vs.length < 2 → vs.Pairwise R
  | [], _ => .nil
  | [_], _ => .cons (fun _ z => by cases z) .nil
  | _ :: _ :: _, h => absurd h (Nat.not_lt.mpr (Nat.le_add_left 2 _))
theorem list_sort_gen {a : Addr} {vs : List Value} {n : Nat} {P : PySem.Fin → Shared → Prop} (ho : s.heap.get? a = some (seqObj "list" vs.toArray n)) (hz : vs.length ≤ sizeLine) (h64 : vs.length < 64) (hV : ∀ v ∈ vs, V v)
    (hkind : 2 ≤ vs.length → ∀ (s' : Shared) (Q : SortKind → Shared → Prop), (∀ b o, b ≠ a → s.heap.get? b = some o → s'.heap.get? b = some o) → Q k0 s' → wpAny (model prog w) A (keyKind' vs.toArray) Q E s')
    (hcmp : ∀ s' : Shared, (∀ b o, b ≠ a → s.heap.get? b = some o → s'.heap.get? b = some o) → Cmp prog w A s' O kof V k0)
    (h : ∀ out : Array Value, out.toList.Perm vs → (out.toList.Pairwise fun x y => O.kle (kof x) (kof y)) → P (.done (.ret .none)) { s with heap := sortedHeap s.heap a vs out }) :
    wpAny (model prog w) A (Builtin.«list.sort» ⟨[.ref a], []⟩) P E s := by
  rw [list_sort_plain]
  have ha : a < s.heap.objs.size := Heap.lt_size ho
  have hz' : vs.toArray.size ≤ sizeLine := by simpa using hz
  refine wpAny_bind (listItems_at ho rfl ?_)
  refine wpAny_bind (listUpdate_at ho rfl ?_ hz' (Nat.zero_le _))
  obtain ⟨e1, ho1⟩ : ∃ e1, (s.heap.update a (Obj.mapSeq fun _ => #[])).get? a = some (seqObj "list" #[] e1) := ⟨_, get?_update_seq ho (fun _ => #[])⟩
  refine wpAny_bind (seqEpoch_at ho1 rfl ?_)
  refine wpAny_bind (wpAny_newTuple ?_ (by simpa using hz))
  refine wpAny_bind (wpAny_newList ?_ (Nat.zero_le _))
  refine wpAny_holding ?_
  have ho6 : (((s.heap.update a (Obj.mapSeq fun _ => #[])).push (seqObj "tuple" vs.toArray 0)).push (seqObj "list" #[] 0)).get? a = some (seqObj "list" #[] e1) := by
    rw [Heap.get?_push_ne _ _ _ (by rw [size_push', Heap.size_update]; exact Nat.ne_of_lt (Nat.lt_succ_of_lt ha)), Heap.get?_push_ne _ _ _ (by rw [Heap.size_update]; exact Nat.ne_of_lt ha)]
    exact ho1
  have kept : ∀ b o, b ≠ a → s.heap.get? b = some o → (((s.heap.update a (Obj.mapSeq fun _ => #[])).push (seqObj "tuple" vs.toArray 0)).push (seqObj "list" #[] 0)).get? b = some o := fun b o hb e => by
    refine Heap.get?_push_of_some _ (Heap.get?_push_of_some _ ?_)
    exact ((Heap.SameBut.update s.heap a _).2 b hb).trans e
  have hsz : vs.toArray.size = vs.length := by simp
  dsimp only
  have hzp : ∀ out : Array Value, out.toList.Perm vs → out.size ≤ sizeLine + 1 := fun out hp => by
    rw [← Array.length_toList, hp.length_eq]
    exact Nat.le_succ_of_le hz
  by_cases h2 : vs.toArray.size < 2
  · rw [if_pos h2, if_pos h2]
    refine wpAny_bind (wpAny_pure ?_)
    rw [StateT.run_pure]
    refine wpAny_bind (wpAny_pure ?_)
    dsimp only
    have pr : ((arrOf (SortSt.mk' general' (vs.toArray.zip vs.toArray) #[] 7 none)).map (·.2)).toList = vs := by
      show ((vs.toArray.zip vs.toArray).map (·.2)).toList = vs
      simp [List.map_snd_zip]
    have pp := List.Perm.of_eq pr
    refine wpAny_bind (seqEpoch_at ho6 rfl ?_)
    refine wpAny_bind (listUpdate_at ho6 rfl ?_ (Nat.zero_le _) (hzp _ pp))
    simp only [bne_self_eq_false, Bool.false_eq_true, if_false]
    refine wpAny_pure (h _ pp ?_)
    rw [pr]
    rw [hsz] at h2
    exact pw_short h2
  · rw [if_neg h2, if_neg h2]
    refine wpAny_bind (hkind (by omega) _ _ kept ?_)
    refine wpAny_bind (wpAny_mono (wp_run (O := O) (kof := kof) (vs := vs) (κ := k0) (Q := fun st' s' => s' = _ ∧ failedOf st' = none ∧ ((arrOf st').map (·.2)).toList.Perm vs ∧ ((arrOf st').map (·.2)).toList.Pairwise fun x y => O.kle (kof x) (kof y))
      (by omega) h64 (fun x y hx hy C q => hcmp _ kept x y (hV x hx) (hV y hy) C q) fun st' a1 a2 a3 => ⟨rfl, a1, a2, a3⟩) ?_ fun _ _ e => e)
    rintro ⟨⟨⟩, st'⟩ s' ⟨rfl, hf, hp, hs⟩
    dsimp only
    refine wpAny_bind (seqEpoch_at ho6 rfl ?_)
    refine wpAny_bind (listUpdate_at ho6 rfl ?_ (Nat.zero_le _) (hzp _ hp))
    rw [hf]
    simp only [bne_self_eq_false, Bool.false_eq_true, if_false]
    exact wpAny_pure (h _ hp hs)
theorem sorted_gen {l : Addr} {vs : List Value} {Q : Value → Shared → Prop} (hl : s.heap.IsList l vs.toArray) (hz : vs.length ≤ sizeLine) (h64 : vs.length < 64) (hV : ∀ v ∈ vs, V v)
    (hkind : 2 ≤ vs.length → ∀ (A : Around) (E : Value → Shared → Prop) (s' : Shared) (Q : SortKind → Shared → Prop), Grown s.heap s'.heap → Q k0 s' → wpAny (model prog w) A (keyKind' vs.toArray) Q E s')
    (hcmp : ∀ (A : Around) (s' : Shared), Grown s.heap s'.heap → Cmp prog w A s' O kof V k0)
    (h : ∀ out : Array Value, out.toList.Perm vs → (out.toList.Pairwise fun x y => O.kle (kof x) (kof y)) → Q (.ref (s.heap.objs.size + 1)) { s with heap := sortedAll s.heap vs out }) :
    wpAny (model prog w) A (call (.builtin "sorted") [.ref l]) Q E s := by
  refine Calls.call_function_entry kind_sorted plain_sorted entry_sorted (args_sorted1 _) ?_
  unfold Builtin.«sorted»
  refine wpAny_bind (m := checkCount "sorted" 1 1 _) (wpAny_pure ?_)
  refine wpAny_bind (collect_list hl ?_ hz)
  refine wpAny_bind (wpAny_newList ?_ hz)
  have hsz : ((s.heap.push (seqObj "list" #[] 0)).update s.heap.objs.size (Obj.mapSeq (· ++ vs.toArray))).objs.size = s.heap.objs.size + 1 := by
    rw [Heap.size_update, size_push']
  have hoL : (((s.heap.push (seqObj "list" #[] 0)).update s.heap.objs.size (Obj.mapSeq (· ++ vs.toArray))).push (seqObj "list" vs.toArray 0)).get? (s.heap.objs.size + 1) = some (seqObj "list" vs.toArray 0) := by
    rw [← hsz]; exact Heap.get?_push_size _ rfl
  have grown : ∀ b o, s.heap.get? b = some o → b ≠ s.heap.objs.size + 1 ∧ (((s.heap.push (seqObj "list" #[] 0)).update s.heap.objs.size (Obj.mapSeq (· ++ vs.toArray))).push (seqObj "list" vs.toArray 0)).get? b = some o := fun b o e => by
    have hb := Heap.lt_size e
    refine ⟨fun z => by rw [z] at hb; exact absurd hb (Nat.not_lt.mpr (Nat.le_succ _)), Heap.get?_push_of_some _ ?_⟩
    exact ((Heap.SameBut.update _ s.heap.objs.size _).2 b (Nat.ne_of_lt hb)).trans (Heap.get?_push_of_some _ e)
  show wpAny _ _ _ _ _ { s with heap := ((s.heap.push (seqObj "list" #[] 0)).update s.heap.objs.size (Obj.mapSeq (· ++ vs.toArray))).push (seqObj "list" vs.toArray 0) }
  rw [hsz]
  refine wpAny_bind (wpAny_holding (wpAny_call_entry slot_list_sort ⟨_, hoL, rfl⟩ entry_list_sort (list_sort_gen (V := V) (k0 := k0) (kof := kof) hoL hz h64 hV
    (fun h2 s' Q g q => hkind h2 _ _ s' Q (fun b o e => g b o (grown b o e).1 (grown b o e).2) q) (fun s' g => hcmp _ s' fun b o e => g b o (grown b o e).1 (grown b o e).2) fun out a1 a2 => ⟨_, rfl, ?_⟩) (args_list_sort _)))
  exact wpAny_pure ⟨_, rfl, h out a1 a2⟩
end
def lexB : List Int → List Int → Bool
  | [], [] => false
  | [], _ :: _ => true
  | _ :: _, [] => false
  | x :: xs, y :: ys => if x = y then lexB xs ys else decide (x < y)
theorem lexB_irrefl : ∀ a, lexB a a = false
  | [] => rfl
  | x :: xs => by unfold lexB; rw [if_pos rfl]; exact lexB_irrefl xs
theorem lexB_trans : ∀ a b c, lexB a b = true → lexB b c = true → lexB a c = true
  | [], [], _, h, _ => by cases h
  | [], _ :: _, [], _, h => by cases h
  | [], _ :: _, _ :: _, _, _ => rfl
  | _ :: _, [], _, h, _ => by cases h
  | _ :: _, _ :: _, [], _, h => by cases h
  | x :: xs, y :: ys, z :: zs, h1, h2 => by
    unfold lexB at h1 h2 ⊢
    by_cases e1 : x = y
    · rw [if_pos e1] at h1
      subst e1
      by_cases e2 : x = z
      · rw [if_pos e2] at h2 ⊢
        exact lexB_trans xs ys zs h1 h2
      · rw [if_neg e2] at h2 ⊢
        exact h2
    · rw [if_neg e1] at h1
      by_cases e2 : y = z
      · subst e2
        rw [if_neg e1]
        exact h1
      · rw [if_neg e2] at h2
        simp at h1 h2
        rw [if_neg (by omega)]
        simp
        omega
theorem lexB_neg : ∀ a b c, lexB a c = true → lexB a b = true ∨ lexB b c = true
  | [], _, [], h => by cases h
  | [], [], _ :: _, _ => .inr rfl
  | [], _ :: _, _ :: _, _ => .inl rfl
  | _ :: _, _, [], h => by cases h
  | x :: xs, [], z :: zs, _ => .inr rfl
  | x :: xs, y :: ys, z :: zs, h => by
    unfold lexB at h ⊢
    by_cases e1 : x = z
    · subst e1
      rw [if_pos rfl] at h
      by_cases e2 : x = y
      · subst e2
        rw [if_pos rfl, if_pos rfl]
        exact lexB_neg xs ys zs h
      · rw [if_neg e2, if_neg (Ne.symm e2)]
        simp
        omega
    · rw [if_neg e1] at h
      simp at h
      by_cases e2 : x = y
      · subst e2
        rw [if_pos rfl, if_neg e1]
        right
        simpa using h
      · rw [if_neg e2]
        by_cases e3 : y = z
        · subst e3
          left
          simpa using h
        · rw [if_neg e3]
          simp
          omega
theorem lexB_total : ∀ a b, lexB a b = false → lexB b a = false → a = b
  | [], [], _, _ => rfl
  | [], _ :: _, h, _ => by cases h
  | _ :: _, [], _, h => by cases h
  | x :: xs, y :: ys, h1, h2 => by
    unfold lexB at h1 h2
    by_cases e : x = y
    · subst e
      rw [if_pos rfl] at h1 h2
      rw [lexB_total xs ys h1 h2]
    · rw [if_neg e] at h1
      rw [if_neg (Ne.symm e)] at h2
      simp at h1 h2
      omega
def lexO : KeyOrd where
  α := List Int
  blt := lexB
  irrefl := lexB_irrefl
  trans := lexB_trans
  negTrans := lexB_neg
  total := lexB_total
/-- sorted(xs), xs a list of ints -/
theorem sorted_of_ints {prog : Program} {w : World} {A : Around} {E : Value → Shared → Prop} {s : Shared} {l : Addr} {vs : List Value} {ns : List Int} {Q : Value → Shared → Prop} (hl : s.heap.IsList l vs.toArray) (hz : vs.length ≤ sizeLine) (h64 : vs.length < 64) (hI : IntsAre vs ns)
    (h : ∀ (out : Array Value) (ns' : List Int), IntsAre out.toList ns' → ns'.Perm ns → ns'.Pairwise (· ≤ ·) → Q (.ref (s.heap.objs.size + 1)) { s with heap := sortedAll s.heap vs out }) :
    wpAny (model prog w) A (call (.builtin "sorted") [.ref l]) Q E s := sorted_ints hl hI h64 h
def IsI (v : Value) : Prop := ∃ n t, v = Value.int n t
def firstDiff : List Int → List Int → Option Bool
  | x :: xs, y :: ys => if x = y then firstDiff xs ys else some (decide (x < y))
  | _, _ => none
theorem lexB_diff : ∀ ns ms, lexB ns ms = (firstDiff ns ms).getD (decide (ns.length < ms.length))
  | [], [] => rfl
  | [], _ :: _ => by simp [lexB, firstDiff]
  | _ :: _, [] => by simp [lexB, firstDiff]
  | x :: xs, y :: ys => by
    unfold lexB firstDiff
    by_cases e : x = y
    · rw [if_pos e, if_pos e, lexB_diff xs ys]
      congr 1
      simp
    · rw [if_neg e, if_neg e]
      rfl
section
variable {prog : Program} {w : World} {A : Around} {E : Value → Shared → Prop} {s : Shared}
theorem lex_loop {M : Model} {R : Option Bool × Unit → Shared → Prop} {body : (Value × Value) × Nat → Option Bool × Unit → Sem (ForInStep (Option Bool × Unit))}
    (hb : ∀ (a : Int) (t : Tok) (c : Int) (u : Tok) (i : Nat) (R' : ForInStep (Option Bool × Unit) → Shared → Prop), (if a = c then R' (.yield (none, ())) s else R' (.done (some (decide (a < c)), ())) s) →
      wpAny M A (body ((.int a t, .int c u), i) (none, ())) R' E s) :
    ∀ {vs ws : List Value} {ns ms : List Int} (i : Nat), IntsAre vs ns → IntsAre ws ms → R (firstDiff ns ms, ()) s → wpAny M A (forIn ((vs.zip ws).zipIdx i) (none, ()) body) R E s
  | _, _, _, _, i, .nil, h2, h => by
    rw [List.zip_nil_left, List.zipIdx_nil, List.forIn_nil]
    exact wpAny_pure h
  | _, _, _, _, i, .cons a t h1, .nil, h => by
    rw [List.zip_nil_right, List.zipIdx_nil, List.forIn_nil]
    exact wpAny_pure h
  | _, _, _, _, i, .cons a t h1, .cons c u h2, h => by
    rw [List.zip_cons_cons, List.zipIdx_cons, List.forIn_cons]
    refine wpAny_bind (hb a t c u i _ ?_)
    unfold firstDiff at h
    by_cases e : a = c
    · rw [if_pos e] at h ⊢
      exact lex_loop hb (i + 1) h1 h2 h
    · rw [if_neg e] at h ⊢
      exact wpAny_pure h
/-- what an address holds as a tuple of ints, by the heap h -/
def tupOf (h : Heap) (v : Value) : List Int := match v with
  | .ref a => match h.get? a with
    | some o => match o.data with
      | .seq xs _ => xs.toList.map numOf
      | _ => []
    | none => []
  | _ => []
def IsTI (h : Heap) (v : Value) : Prop := ∃ (a : Addr) (xs : Array Value) (ns : List Int), v = .ref a ∧ IsTup h a xs ∧ IntsAre xs.toList ns ∧ ns ≠ []
theorem tupOf_at {h : Heap} {a : Addr} {xs : Array Value} {ns : List Int} (ht : IsTup h a xs) (hI : IntsAre xs.toList ns) : tupOf h (.ref a) = ns := by
  obtain ⟨o, e, _, n, d⟩ := ht
  unfold tupOf
  dsimp only
  rw [e]
  dsimp only
  rw [d]
  exact hI.nums
theorem tup_grown {h h' : Heap} {a : Addr} {xs : Array Value} (g : Grown h h') (ht : IsTup h a xs) : IsTup h' a xs := by
  obtain ⟨o, e, c⟩ := ht
  exact ⟨o, g a o e, c⟩
theorem rc_lt_int {a b : Int} {t u : Tok} {Q : Bool → Shared → Prop} (h : Q (decide (a < b)) s) : wpAny (model prog w) A (oneLt' false (.int a t) (.int b u)) Q E s := by
  rw [oneLt'_eq]
  simp only [Bool.false_eq_true, if_false]
  refine wpAny_bind (show wpAny (model prog w) A (richCompare .Lt (.int a t) (.int b u)) _ E s from PyProof.Rows.lt_int ?_)
  exact wpAny_truthy_bool h
theorem keyLt_tup {x y : Addr} {xs ys : Array Value} {ns ms : List Int} {Q : Bool → Shared → Prop} (hx : IsTup s.heap x xs) (hy : IsTup s.heap y ys) (ix : IntsAre xs.toList ns) (iy : IntsAre ys.toList ms)
    (h : Q (lexB ns ms) s) : wpAny (model prog w) A (keyLt' (tuples' true) (.ref x) (.ref y)) Q E s := by
  obtain ⟨ox, hx, cx, n1, dx⟩ := hx
  obtain ⟨oy, hy, cy, n2, dy⟩ := hy
  refine wpAny_bind (listItems_at hx dx (wpAny_bind (listItems_at hy dy ?_)))
  rw [lexB_diff] at h
  have z1 : xs.size = ns.length := by rw [← ix.length]; simp
  have z2 : ys.size = ms.length := by rw [← iy.length]; simp
  refine wpAny_bind (lex_loop (fun a t c u i R' h' => ?_) 0 ix iy ?_)
  · refine wpAny_bind (wpAny_eqBool_int ?_)
    by_cases e : a = c
    · rw [if_pos e] at h'
      subst e
      simp only [beq_self_eq_true, Bool.not_true, Bool.false_eq_true, if_false]
      exact wpAny_pure h'
    · rw [if_neg e] at h'
      have eb : (a == c) = false := by simpa using e
      simp only [eb, Bool.not_false, if_true]
      cases i with
      | zero => exact wpAny_bind (oneLt_int (wpAny_pure h'))
      | succ k => exact wpAny_bind (rc_lt_int (wpAny_pure h'))
  · cases e : firstDiff ns ms with
    | none =>
      rw [e] at h
      refine wpAny_pure ?_
      rw [z1, z2]
      exact h
    | some b =>
      rw [e] at h
      exact wpAny_pure h
theorem cmp_tups {h₀ : Heap} (g : Grown h₀ s.heap) : Cmp prog w A s lexO (tupOf h₀) (IsTI h₀) (tuples' true) := fun x y ux uy Q h => by
  obtain ⟨a, xs, ns, rfl, tx, ix, _⟩ := ux
  obtain ⟨b, ys, ms, rfl, ty, iy, _⟩ := uy
  rw [tupOf_at tx ix, tupOf_at ty iy] at h
  exact keyLt_tup (tup_grown g tx) (tup_grown g ty) ix iy h
theorem firstOf_tup {M : Model} {a : Addr} {xs : Array Value} {f : Value} {Q : Option Value → Shared → Prop} (ht : IsTup s.heap a xs) (hf : xs[0]? = some f) (h : Q (some f) s) : wpAny M A (firstOfTuple' (.ref a)) Q E s := by
  obtain ⟨o, ho, hc, n, hd⟩ := ht
  refine wpAny_bind (wpAny_typeOf (T := "tuple") ⟨o, ho, hc⟩ ?_)
  have hq : ((Value.type "tuple" != Value.type "tuple") = true) = False := by simp [bne]
  rw [if_neg (by rw [hq]; exact id)]
  refine wpAny_bind (listItems_at ho hd (wpAny_pure ?_))
  rw [hf]
  exact h
theorem firsts_tup {M : Model} : ∀ (vs : List Value) {Q : List (Option Value) → Shared → Prop}, (∀ v ∈ vs, IsTI s.heap v) → (∀ fs : List Value, fs.length = vs.length → (∀ f ∈ fs, IsI f) → Q (fs.map some) s) → wpAny M A (vs.mapM firstOfTuple') Q E s
  | [], Q, _, h => by
    rw [List.mapM_nil]
    exact wpAny_pure (h [] rfl fun _ z => by cases z)
  | v :: vs, Q, hv, h => by
    obtain ⟨a, xs, ns, rfl, ht, hI, hne⟩ := hv v List.mem_cons_self
    obtain ⟨f, hf, fI⟩ : ∃ f, xs[0]? = some f ∧ IsI f := by
      rw [← Array.getElem?_toList]
      generalize xs.toList = l at hI
      cases hI with
      | nil => exact absurd rfl hne
      | cons n t r => exact ⟨_, rfl, n, t, rfl⟩
    rw [List.mapM_cons]
    refine wpAny_bind (firstOf_tup ht hf ?_)
    refine wpAny_bind (firsts_tup vs (fun u hu => hv u (List.mem_cons_of_mem _ hu)) fun fs hl hf' => wpAny_pure ?_)
    exact h (f :: fs) (by simp [hl]) fun u hu => by
      rcases List.mem_cons.mp hu with rfl | hu
      · exact fI
      · exact hf' u hu
theorem kind_tups {M : Model} {vs : List Value} {Q : SortKind → Shared → Prop} (h2 : 2 ≤ vs.length) (hv : ∀ v ∈ vs, IsTI s.heap v) (h : Q (tuples' true) s) : wpAny M A (keyKind' vs.toArray) Q E s := by
  rw [keyKind'_eq, List.mapM_toArray, map_eq_pure_bind]
  refine wpAny_bind (wpAny_bind (firsts_tup vs hv fun fs hl hf => wpAny_pure ?_))
  have hall : ((fs.map some).toArray.all fun x => x.isSome) = true := by simp
  rw [if_pos hall]
  refine wpAny_bind (wpAny_rule ?_)
  have hfm : ((fs.map some).toArray.filterMap id) = fs.toArray := by simp
  rw [hfm, oneTypeOnly'_eq, List.mapM_toArray, map_eq_pure_bind]
  obtain ⟨ns, hI⟩ : ∃ ns, IntsAre fs ns := ⟨_, intsAre_map fs hf⟩
  rw [mapM_typeOf_ints hI]
  refine wpAny_bind (wpAny_bind (wpAny_bind (wpAny_pure (wpAny_pure ?_))))
  obtain ⟨f₁, fr, rfl⟩ : ∃ f₁ fr, fs = f₁ :: fr := by
    cases fs with
    | nil => simp at hl; omega
    | cons x r => exact ⟨x, r, rfl⟩
  have h0 : (List.map (fun _ => Value.type "int") (f₁ :: fr)).toArray[0]? = some (Value.type "int") := by simp
  rw [h0]
  have hall2 : ((List.map (fun _ => Value.type "int") (f₁ :: fr)).toArray.all fun x => x == Value.type "int") = true := by
    simp only [List.all_toArray, List.all_map, List.all_eq_true]
    intro _ _
    rfl
  simp only [hall2, if_true]
  refine wpAny_pure (wpAny_pure ?_)
  exact h
/-- sorted(xs), xs a list of tuples of ints: the addresses in the order of what stands there -/
theorem sorted_of_tups {l : Addr} {vs : List Value} {Q : Value → Shared → Prop} (hl : s.heap.IsList l vs.toArray) (hz : vs.length ≤ sizeLine) (h64 : vs.length < 64) (hv : ∀ v ∈ vs, IsTI s.heap v)
    (h : ∀ out : Array Value, out.toList.Perm vs → (out.toList.Pairwise fun x y => lexO.kle (tupOf s.heap x) (tupOf s.heap y)) → Q (.ref (s.heap.objs.size + 1)) { s with heap := sortedAll s.heap vs out }) :
    wpAny (model prog w) A (call (.builtin "sorted") [.ref l]) Q E s := by
  refine sorted_gen (O := lexO) (kof := tupOf s.heap) (V := IsTI s.heap) (k0 := tuples' true) hl hz h64 hv (fun h2 A E s' Q g q => ?_) (fun A s' g => cmp_tups g) h
  refine kind_tups h2 (fun v hm => ?_) q
  obtain ⟨a, xs, ns, e, ht, r⟩ := hv v hm
  exact ⟨a, xs, ns, e, tup_grown g ht, r⟩
end
end TS

set_option autoImplicit false
namespace RD
/-! ### the ring, as plain functions -/
def place (size n : Int) : Int := (31 * n * n + 7 * n) % size
def post (size k : Int) (t : Int) : Int := (97 * k + 53 * t * t + 41 * t + 13) % size
def stp (size a b : Int) : Int := (b - a) % size
def posts (size k : Int) (share : Nat) : List Int := (List.range share).map fun (t : Nat) => post size k (t : Int)
/-- the least of a list, d for none -/
def leastD (d : Int) : List Int → Int
  | [] => d
  | x :: r => leastD (if x < d then x else d) r
def least : List Int → Int
  | [] => 0
  | x :: r => leastD x r
def way (size n k : Int) (share : Nat) : Int := least ((posts size k share).map (stp size (place size n)))
theorem place_alt (size n : Int) : (31 * n + 7) * n % size = place size n := by
  unfold place
  congr 1
  rw [Int.add_mul]
theorem post_alt (size k t : Int) : ((53 * t + 41) * t + 97 * k + 13) % size = post size k t := by
  unfold post
  congr 1
  rw [Int.add_mul]
  omega
theorem place_lt {size : Int} (h : 0 < size) (n : Int) : 0 ≤ place size n ∧ place size n < size :=
  ⟨Int.emod_nonneg _ (by omega), Int.emod_lt_of_pos _ h⟩
theorem post_lt {size : Int} (h : 0 < size) (k t : Int) : 0 ≤ post size k t ∧ post size k t < size :=
  ⟨Int.emod_nonneg _ (by omega), Int.emod_lt_of_pos _ h⟩
/-- both places on the ring: a difference, or a turn more -/
theorem stp_val {size a b : Int} (ha : 0 ≤ a ∧ a < size) (hb : 0 ≤ b ∧ b < size) : stp size a b = if b - a < 0 then b - a + size else b - a := by
  unfold stp
  split
  · rw [← Int.add_emod_right]
    exact Int.emod_eq_of_lt (by omega) (by omega)
  · exact Int.emod_eq_of_lt (by omega) (by omega)
/-! ### the least -/
theorem leastD_le : ∀ (l : List Int) (d : Int), leastD d l ≤ d ∧ ∀ x ∈ l, leastD d l ≤ x
  | [], d => ⟨Int.le_refl _, fun x h => by cases h⟩
  | y :: r, d => by
    have ih := leastD_le r (if y < d then y else d)
    show leastD (if y < d then y else d) r ≤ d ∧ ∀ x ∈ y :: r, leastD (if y < d then y else d) r ≤ x
    refine ⟨?_, fun x h => ?_⟩
    · have := ih.1
      split at this <;> split <;> omega
    · rcases List.mem_cons.mp h with rfl | h
      · have := ih.1
        split at this <;> split <;> omega
      · exact ih.2 x h
theorem leastD_mem : ∀ (l : List Int) (d : Int), leastD d l = d ∨ leastD d l ∈ l
  | [], d => .inl rfl
  | y :: r, d => by
    have ih := leastD_mem r (if y < d then y else d)
    show leastD (if y < d then y else d) r = d ∨ leastD (if y < d then y else d) r ∈ y :: r
    rcases ih with e | e
    · by_cases hy : y < d
      · rw [if_pos hy] at e ⊢
        exact .inr (by rw [e]; exact List.mem_cons_self)
      · rw [if_neg hy] at e ⊢
        exact .inl e
    · exact .inr (List.mem_cons_of_mem _ e)
theorem least_le {l : List Int} {x : Int} (h : x ∈ l) : least l ≤ x := by
  cases l with
  | nil => cases h
  | cons y r =>
    rcases List.mem_cons.mp h with rfl | h
    · exact (leastD_le r x).1
    · exact (leastD_le r y).2 x h
theorem least_mem {l : List Int} (h : l ≠ []) : least l ∈ l := by
  cases l with
  | nil => exact absurd rfl h
  | cons y r =>
    rcases leastD_mem r y with e | e
    · show leastD y r ∈ y :: r
      rw [e]
      exact List.mem_cons_self
    · exact List.mem_cons_of_mem _ e
theorem least_eq {l : List Int} {x : Int} (h : x ∈ l) (hl : ∀ y ∈ l, x ≤ y) : least l = x := by
  have h1 := least_le h
  have h2 := hl _ (least_mem (List.ne_nil_of_mem h))
  omega
theorem leastD_snoc : ∀ (l : List Int) (d x : Int), leastD d (l ++ [x]) = if x < leastD d l then x else leastD d l
  | [], d, x => rfl
  | y :: r, d, x => leastD_snoc r _ x
theorem least_snoc {l : List Int} (h : l ≠ []) (x : Int) : least (l ++ [x]) = if x < least l then x else least l := by
  cases l with
  | nil => exact absurd rfl h
  | cons y r => exact leastD_snoc r y x
/-! ### halving: c of the ordered places are ahead of the place; the next one, going round, is the nearest -/
theorem near {size p : Int} {o : List Int} {c : Nat} (hp : 0 ≤ p ∧ p < size) (ho : ∀ x ∈ o, 0 ≤ x ∧ x < size) (hs : o.Pairwise (· ≤ ·)) (hc : c ≤ o.length)
    (h1 : ∀ (i : Nat) x, o[i]? = some x → i < c → x < p) (h2 : ∀ (i : Nat) x, o[i]? = some x → c ≤ i → p ≤ x) {v : Int} (hv : o[c % o.length]? = some v) :
    stp size p v = least (o.map (stp size p)) := by
  have hm : v ∈ o := List.mem_of_getElem? hv
  symm
  refine least_eq (List.mem_map.mpr ⟨v, hm, rfl⟩) fun y hy => ?_
  obtain ⟨x, hx, rfl⟩ := List.mem_map.mp hy
  obtain ⟨i, hi⟩ := List.getElem?_of_mem hx
  rw [stp_val hp (ho v hm), stp_val hp (ho x hx)]
  have hil : i < o.length := (List.getElem?_eq_some_iff.mp hi).1
  have bv := ho v hm
  have bx := ho x hx
  have le_of : ∀ (i j : Nat) (a b : Int), o[i]? = some a → o[j]? = some b → i ≤ j → a ≤ b := fun i j a b ea eb hij => by
    obtain ⟨hi', ea⟩ := List.getElem?_eq_some_iff.mp ea
    obtain ⟨hj', eb⟩ := List.getElem?_eq_some_iff.mp eb
    rcases Nat.lt_or_ge i j with hlt | hge
    · have := List.pairwise_iff_getElem.mp hs i j hi' hj' hlt
      rw [ea, eb] at this
      exact this
    · have e : i = j := by omega
      subst e
      rw [ea] at eb
      omega
  rcases Nat.lt_or_ge c o.length with hlt | hge
  · rw [Nat.mod_eq_of_lt hlt] at hv
    have a1 := h2 c v hv (Nat.le_refl _)
    by_cases hic : i < c
    · have a2 := h1 i x hi hic
      split <;> split <;> omega
    · have a2 := h2 i x hi (by omega)
      have a3 := le_of c i v x hv hi (by omega)
      split <;> split <;> omega
  · have e : c = o.length := by omega
    subst e
    rw [Nat.mod_self] at hv
    have a1 := h1 0 v hv (by omega)
    have a2 := h1 i x hi hil
    have a3 := le_of 0 i v x hv hi (Nat.zero_le _)
    split <;> split <;> omega
theorem least_perm {l m : List Int} (h : l.Perm m) : least l = least m := by
  cases l with
  | nil =>
    have := h.symm.eq_nil
    subst this
    rfl
  | cons x r =>
    have hm : m ≠ [] := fun e => by
      subst e
      cases h.eq_nil
    refine least_eq (h.mem_iff.mpr (least_mem hm)) fun y hy => least_le (h.mem_iff.mp hy)
theorem near_way {size n k p : Int} {share : Nat} {o : List Int} {c : Nat} (hz : 0 < size) (hp : p = place size n) (hpm : o.Perm (posts size k share)) (hs : o.Pairwise (· ≤ ·)) (hc : c ≤ o.length)
    (h1 : ∀ (i : Nat) x, o[i]? = some x → i < c → x < p) (h2 : ∀ (i : Nat) x, o[i]? = some x → c ≤ i → p ≤ x) {v : Int} (hv : o[c % o.length]? = some v) :
    stp size p v = way size n k share := by
  have ho : ∀ x ∈ o, 0 ≤ x ∧ x < size := fun x hx => by
    obtain ⟨t, _, rfl⟩ := List.mem_map.mp (hpm.mem_iff.mp hx)
    exact post_lt hz _ _
  rw [near (hp ▸ place_lt hz n) ho hs hc h1 h2 hv]
  unfold way
  rw [← hp]
  exact least_perm (hpm.map _)
theorem posts_length (size k : Int) (share : Nat) : (posts size k share).length = share := by simp [posts]
end RD

set_option autoImplicit false
set_option linter.all false
namespace RD
/-! ### pairs in order: (way, name, keeper) -/
abbrev Pr := Int × Int × Int
def plt (p q : Pr) : Prop := p.1 < q.1 ∨ (p.1 = q.1 ∧ (p.2.1 < q.2.1 ∨ (p.2.1 = q.2.1 ∧ p.2.2 < q.2.2)))
theorem plt_irrefl (p : Pr) : ¬ plt p p := by unfold plt; omega
theorem plt_trans {p q r : Pr} (h1 : plt p q) (h2 : plt q r) : plt p r := by unfold plt at *; omega
theorem plt_asymm {p q : Pr} (h1 : plt p q) (h2 : plt q p) : False := plt_irrefl p (plt_trans h1 h2)
theorem plt_tri (p q : Pr) : plt p q ∨ p = q ∨ plt q p := by
  obtain ⟨a, b, c⟩ := p
  obtain ⟨x, y, z⟩ := q
  by_cases h : a = x ∧ b = y ∧ c = z
  · obtain ⟨rfl, rfl, rfl⟩ := h
    exact .inr (.inl rfl)
  · unfold plt
    dsimp only
    omega
/-- the pair of a name and a keeper, by the ways W -/
def pr (W : Int → Int → Int) (n k : Int) : Pr := (W n k, n, k)
theorem pr_inj {W : Int → Int → Int} {n k m j : Int} (h : pr W n k = pr W m j) : n = m ∧ k = j := by
  unfold pr at h
  simp only [Prod.mk.injEq] at h
  exact ⟨h.2.1, h.2.2⟩
/-! ### dealing: through the pairs in their order -/
structure GS where
  d : List (Int × Int)
  r : Int → Int
def GS.has (s : GS) (n : Int) : Bool := s.d.any fun x => decide (x.1 = n)
def GS.step (s : GS) (p : Pr) : GS :=
  if s.has p.2.1 = false ∧ 0 < s.r p.2.2 then ⟨s.d ++ [(p.2.1, p.2.2)], fun j => if j = p.2.2 then s.r j - 1 else s.r j⟩ else s
def greedy (ps : List Pr) (c : Int → Int) : GS := ps.foldl GS.step ⟨[], c⟩
theorem greedy_snoc (ps : List Pr) (p : Pr) (c : Int → Int) : greedy (ps ++ [p]) c = (greedy ps c).step p := by
  unfold greedy
  rw [List.foldl_append]
  rfl
theorem has_iff {s : GS} {n : Int} : s.has n = true ↔ ∃ k, (n, k) ∈ s.d := by
  unfold GS.has
  rw [List.any_eq_true]
  constructor
  · rintro ⟨x, hx, e⟩
    have e' := of_decide_eq_true e
    subst e'
    exact ⟨x.2, hx⟩
  · rintro ⟨k, hk⟩
    exact ⟨(n, k), hk, by simp⟩
structure GInv (W : Int → Int → Int) (c : Int → Int) (done : List Pr) (s : GS) : Prop where
  nd : (s.d.map (·.1)).Nodup
  cnt : ∀ k, s.r k = c k - (s.d.countP fun x => decide (x.2 = k) : Nat)
  nn : ∀ k, 0 ≤ c k → 0 ≤ s.r k
  mem : ∀ n k, (n, k) ∈ s.d → pr W n k ∈ done
  st : ∀ n k, pr W n k ∈ done → (∃ j, (n, j) ∈ s.d ∧ (j = k ∨ plt (pr W n j) (pr W n k))) ∨ (s.r k ≤ 0 ∧ ∀ m, (m, k) ∈ s.d → plt (pr W m k) (pr W n k))
theorem ginv_nil (W : Int → Int → Int) (c : Int → Int) : GInv W c [] ⟨[], c⟩ where
  nd := List.nodup_nil
  cnt := fun k => by simp
  nn := fun k h => h
  mem := fun n k h => by cases h
  st := fun n k h => by cases h
theorem ginv_step {W : Int → Int → Int} {c : Int → Int} {done : List Pr} {s : GS} {n k : Int} (h : GInv W c done s) (hlt : ∀ q ∈ done, plt q (pr W n k)) : GInv W c (done ++ [pr W n k]) (s.step (pr W n k)) := by
  have hmem : ∀ m j, pr W m j ∈ done ++ [pr W n k] ↔ pr W m j ∈ done ∨ (m = n ∧ j = k) := fun m j => by
    rw [List.mem_append, List.mem_singleton]
    constructor
    · rintro (h | h)
      · exact .inl h
      · exact .inr (pr_inj h)
    · rintro (h | ⟨rfl, rfl⟩)
      · exact .inl h
      · exact .inr rfl
  unfold GS.step
  by_cases hc : s.has (pr W n k).2.1 = false ∧ 0 < s.r (pr W n k).2.2
  · rw [if_pos hc]
    obtain ⟨h1, h2⟩ := hc
    have h1' : s.has n = false := h1
    have h2' : 0 < s.r k := h2
    have hno : ∀ j, (n, j) ∉ s.d := fun j hj => by
      have := has_iff.mpr ⟨j, hj⟩
      rw [h1'] at this
      cases this
    refine ⟨?_, fun j => ?_, fun j hj => ?_, fun m j hm => ?_, fun m j hm => ?_⟩
    · show ((s.d ++ [(n, k)]).map (·.1)).Nodup
      rw [List.map_append, List.nodup_append]
      refine ⟨h.nd, by simp, fun a ha b hb => ?_⟩
      obtain ⟨x, hx, rfl⟩ := List.mem_map.mp ha
      have hb' : b = n := by simpa using hb
      subst hb'
      rintro rfl
      exact hno x.2 hx
    · show (if j = k then s.r j - 1 else s.r j) = c j - ((s.d ++ [(n, k)]).countP fun x => decide (x.2 = j) : Nat)
      rw [List.countP_append, h.cnt j]
      by_cases e : j = k
      · subst e
        simp
        omega
      · rw [if_neg e]
        have e' : ¬ k = j := fun z => e z.symm
        simp [e']
    · show 0 ≤ (if j = k then s.r j - 1 else s.r j)
      have := h.nn j hj
      split
      · rename_i e
        subst e
        omega
      · exact this
    · rcases List.mem_append.mp hm with hm | hm
      · exact List.mem_append_left _ (h.mem m j hm)
      · have hm' : m = n ∧ j = k := by simpa [pr] using hm
        rw [hm'.1, hm'.2]
        exact List.mem_append_right _ (List.mem_singleton.mpr rfl)
    · show (∃ i, (m, i) ∈ s.d ++ [(n, k)] ∧ _) ∨ ((if j = k then s.r j - 1 else s.r j) ≤ 0 ∧ ∀ m', (m', j) ∈ s.d ++ [(n, k)] → _)
      rcases (hmem m j).mp hm with hm | ⟨rfl, rfl⟩
      · rcases h.st m j hm with ⟨i, hi, ho⟩ | ⟨hr, ha⟩
        · exact .inl ⟨i, List.mem_append_left _ hi, ho⟩
        · have hjk : j ≠ k := by
            rintro rfl
            omega
          refine .inr ⟨by rw [if_neg hjk]; exact hr, fun m' hm' => ?_⟩
          rcases List.mem_append.mp hm' with hm' | hm'
          · exact ha m' hm'
          · have : m' = n ∧ j = k := by simpa using hm'
            exact absurd this.2 hjk
      · exact .inl ⟨j, List.mem_append_right _ (List.mem_singleton.mpr rfl), .inl rfl⟩
  · rw [if_neg hc]
    refine ⟨h.nd, h.cnt, h.nn, fun m j hm => List.mem_append_left _ (h.mem m j hm), fun m j hm => ?_⟩
    rcases (hmem m j).mp hm with hm | ⟨rfl, rfl⟩
    · exact h.st m j hm
    · by_cases h1 : s.has m = false
      · have h2 : ¬ 0 < s.r j := fun z => hc ⟨h1, z⟩
        exact .inr ⟨by omega, fun m' hm' => hlt _ (h.mem m' j hm')⟩
      · have h1' : s.has m = true := by simpa using h1
        obtain ⟨i, hi⟩ := has_iff.mp h1'
        exact .inl ⟨i, hi, .inr (hlt _ (h.mem m i hi))⟩
theorem ginv_all {W : Int → Int → Int} {c : Int → Int} : ∀ (ps : List Pr) (done : List Pr) (s : GS), GInv W c done s → (∀ p ∈ ps, ∃ n k, p = pr W n k) → (done ++ ps).Pairwise plt → GInv W c (done ++ ps) (ps.foldl GS.step s)
  | [], done, s, h, _, _ => by simpa using h
  | p :: ps, done, s, h, hp, hs => by
    obtain ⟨n, k, rfl⟩ := hp p List.mem_cons_self
    have hs' : (done ++ [pr W n k] ++ ps).Pairwise plt := by simpa using hs
    have := ginv_all ps (done ++ [pr W n k]) (s.step (pr W n k)) (ginv_step h fun q hq => ?_) (fun q hq => hp q (List.mem_cons_of_mem _ hq)) hs'
    · simpa using this
    · have := (List.pairwise_append.mp hs).2.2 q hq (pr W n k) List.mem_cons_self
      exact this
theorem ginv_greedy {W : Int → Int → Int} {c : Int → Int} {ps : List Pr} (hp : ∀ p ∈ ps, ∃ n k, p = pr W n k) (hs : ps.Pairwise plt) : GInv W c ps (greedy ps c) := by
  have := ginv_all ps [] ⟨[], c⟩ (ginv_nil W c) hp (by simpa using hs)
  rw [List.nil_append] at this
  exact this
/-! ### what the deal is worth -/
def look (d : List (Int × Int)) (n : Int) : Option Int := (d.find? fun x => decide (x.1 = n)).map (·.2)
theorem look_some {d : List (Int × Int)} (nd : (d.map (·.1)).Nodup) {n k : Int} : look d n = some k ↔ (n, k) ∈ d := by
  unfold look
  induction d with
  | nil => simp
  | cons x r ih =>
    obtain ⟨a, b⟩ := x
    rw [List.map_cons, List.nodup_cons] at nd
    rw [List.find?_cons]
    by_cases e : a = n
    · subst e
      simp only [decide_true, Option.map_some, Option.some.injEq, List.mem_cons, Prod.mk.injEq, true_and]
      constructor
      · intro h; exact .inl h.symm
      · rintro (h | h)
        · exact h.symm
        · exact absurd (List.mem_map.mpr ⟨_, h, rfl⟩) nd.1
    · simp only [decide_eq_false e, List.mem_cons, Prod.mk.injEq]
      rw [ih nd.2]
      constructor
      · exact .inr
      · rintro (⟨h, _⟩ | h)
        · exact absurd h.symm e
        · exact h
/-- ahead of what one has (none: everything is) -/
def bet (W : Int → Int → Int) (n k : Int) : Option Int → Prop
  | none => True
  | some j => plt (pr W n k) (pr W n j)
def many (N : List Int) (μ : Int → Option Int) (k : Int) : Nat := N.countP fun n => decide (μ n = some k)
/-- a matching of names and keepers along the pairs that are ok, which nobody would leave -/
structure StabA (W : Int → Int → Int) (ok : Int → Int → Prop) (N K : List Int) (c : Int → Int) (μ : Int → Option Int) : Prop where
  dom : ∀ n k, μ n = some k → n ∈ N ∧ k ∈ K ∧ ok n k
  cap : ∀ k ∈ K, (many N μ k : Int) ≤ c k
  stab : ∀ n ∈ N, ∀ k ∈ K, ok n k → bet W n k (μ n) → (many N μ k : Int) = c k ∧ ∀ m ∈ N, μ m = some k → plt (pr W m k) (pr W n k)
abbrev Stab (W : Int → Int → Int) (N K : List Int) (c : Int → Int) (μ : Int → Option Int) : Prop := StabA W (fun _ _ => True) N K c μ
theorem many_count {N : List Int} {d : List (Int × Int)} (hN : N.Nodup) (nd : (d.map (·.1)).Nodup) (hd : ∀ x ∈ d, x.1 ∈ N) (k : Int) : many N (look d) k = d.countP fun x => decide (x.2 = k) := by
  unfold many
  rw [List.countP_eq_length_filter, List.countP_eq_length_filter]
  have e : ((d.filter fun x => decide (x.2 = k)).map (·.1)).Perm (N.filter fun n => decide (look d n = some k)) := by
    refine (List.perm_ext_iff_of_nodup ?_ ?_).mpr fun a => ?_
    · exact nd.sublist ((List.filter_sublist).map _)
    · exact hN.sublist List.filter_sublist
    · rw [List.mem_map, List.mem_filter]
      constructor
      · rintro ⟨x, hx, rfl⟩
        obtain ⟨hx, e⟩ := List.mem_filter.mp hx
        have e' := of_decide_eq_true e
        refine ⟨hd x hx, ?_⟩
        simp only [decide_eq_true_eq]
        rw [look_some nd, ← e']
        exact hx
      · rintro ⟨h1, h2⟩
        have h2' := of_decide_eq_true h2
        rw [look_some nd] at h2'
        exact ⟨(a, k), List.mem_filter.mpr ⟨h2', by simp⟩, rfl⟩
  rw [← e.length_eq, List.length_map]
/-- THE DEAL IS STABLE -/
theorem greedy_stab {W : Int → Int → Int} {N K : List Int} {c : Int → Int} {ps : List Pr} (hN : N.Nodup) (hp : ∀ p, p ∈ ps ↔ ∃ n ∈ N, ∃ k ∈ K, p = pr W n k) (hs : ps.Pairwise plt) (hc : ∀ k ∈ K, 0 ≤ c k) :
    Stab W N K c (look (greedy ps c).d) := by
  have G := ginv_greedy (W := W) (c := c) (fun p h => let ⟨n, _, k, _, e⟩ := (hp p).mp h; ⟨n, k, e⟩) hs
  have hin : ∀ n k, (n, k) ∈ (greedy ps c).d → n ∈ N ∧ k ∈ K := fun n k h => by
    obtain ⟨n', hn, k', hk, e⟩ := (hp _).mp (G.mem n k h)
    obtain ⟨rfl, rfl⟩ := pr_inj e
    exact ⟨hn, hk⟩
  have hcnt := many_count (d := (greedy ps c).d) hN G.nd (fun x hx => (hin x.1 x.2 hx).1)
  refine ⟨fun n k h => ⟨(hin n k ((look_some G.nd).mp h)).1, (hin n k ((look_some G.nd).mp h)).2, trivial⟩, fun k hk => ?_, fun n hn k hk _ hb => ?_⟩
  · rw [hcnt]
    have h1 := G.cnt k
    have h2 := G.nn k (hc k hk)
    omega
  · rcases G.st n k ((hp _).mpr ⟨n, hn, k, hk, rfl⟩) with ⟨j, hj, ho⟩ | ⟨hr, ha⟩
    · have hl := (look_some G.nd).mpr hj
      rw [hl] at hb
      rcases ho with rfl | ho
      · exact absurd hb (plt_irrefl _)
      · exact (plt_asymm hb ho).elim
    · refine ⟨?_, fun m _ hm => ha m ((look_some G.nd).mp hm)⟩
      rw [hcnt]
      have h1 := G.cnt k
      have h2 := G.nn k (hc k hk)
      omega
end RD

set_option autoImplicit false
set_option linter.all false
namespace RD
instance (p q : Pr) : Decidable (plt p q) := by unfold plt; infer_instance
theorem countP_le {α : Type} {p q : α → Bool} : ∀ {l : List α}, (∀ a ∈ l, p a = true → q a = true) → l.countP p ≤ l.countP q
  | [], _ => Nat.le_refl _
  | a :: l, h => by
    rw [List.countP_cons, List.countP_cons]
    have ih := countP_le (l := l) fun b hb => h b (List.mem_cons_of_mem _ hb)
    have ha := h a List.mem_cons_self
    cases e1 : p a <;> cases e2 : q a <;> simp_all <;> omega
theorem countP_lt {α : Type} {p q : α → Bool} : ∀ {l : List α}, (∀ a ∈ l, p a = true → q a = true) → (∃ a ∈ l, q a = true ∧ p a = false) → l.countP p < l.countP q
  | [], _, ⟨_, h, _⟩ => by cases h
  | a :: l, h, ⟨b, hb, h1, h2⟩ => by
    rw [List.countP_cons, List.countP_cons]
    have hl : ∀ x ∈ l, p x = true → q x = true := fun x hx => h x (List.mem_cons_of_mem _ hx)
    have ha := h a List.mem_cons_self
    rcases List.mem_cons.mp hb with rfl | hb
    · have := countP_le hl
      rw [h1, h2]
      simp
      omega
    · have ih := countP_lt hl ⟨b, hb, h1, h2⟩
      cases e1 : p a <;> cases e2 : q a <;> simp_all <;> omega
/-- one is in p and not in q, and p has no more: one is in q and not in p -/
theorem countP_swap {α : Type} {p q : α → Bool} {l : List α} (h : l.countP p ≤ l.countP q) {a : α} (ha : a ∈ l) (h1 : p a = true) (h2 : q a = false) : ∃ b ∈ l, q b = true ∧ p b = false := by
  by_cases hx : ∃ b ∈ l, q b = true ∧ p b = false
  · exact hx
  · exfalso
    have : l.countP q < l.countP p := countP_lt (fun b hb hq => by
      cases e : p b with
      | true => rfl
      | false => exact absurd ⟨b, hb, hq, e⟩ hx) ⟨a, ha, h1, h2⟩
    omega
section
variable {W : Int → Int → Int} {ok : Int → Int → Prop} {N K K' : List Int} {c c' : Int → Int} {μ μ' : Int → Option Int}
def allP (W : Int → Int → Int) (N K : List Int) : List Pr := N.flatMap fun n => K.map fun k => pr W n k
theorem mem_allP {n k : Int} (hn : n ∈ N) (hk : k ∈ K) : pr W n k ∈ allP W N K := List.mem_flatMap.mpr ⟨n, hn, List.mem_map.mpr ⟨k, hk, rfl⟩⟩
/-- induction over the pairs in their order -/
theorem pair_ind {P : Int → Int → Prop} (h : ∀ n ∈ N, ∀ k ∈ K, (∀ m ∈ N, ∀ j ∈ K, plt (pr W m j) (pr W n k) → P m j) → P n k) : ∀ n ∈ N, ∀ k ∈ K, P n k := by
  have go : ∀ (t : Nat) (n k : Int), n ∈ N → k ∈ K → ((allP W N K).countP fun p => decide (plt p (pr W n k))) = t → P n k := by
    intro t
    induction t using Nat.strongRecOn with
    | ind t ih =>
      intro n k hn hk e
      refine h n hn k hk fun m hm j hj hlt => ih _ ?_ m j hm hj rfl
      rw [← e]
      refine countP_lt (fun p _ hp => ?_) ⟨pr W m j, mem_allP hm hj, decide_eq_true hlt, decide_eq_false (plt_irrefl _)⟩
      exact decide_eq_true (plt_trans (of_decide_eq_true hp) hlt)
  exact fun n hn k hk => go _ n k hn hk rfl
/-- more room, or a keeper more: nobody is worse off -/
theorem StabA.mono (S : StabA W ok N K c μ) (S' : StabA W ok N K' c' μ') (hK : ∀ k ∈ K, k ∈ K') (hc : ∀ k ∈ K, c k ≤ c' k) :
    ∀ n ∈ N, ∀ k ∈ K, μ n = some k → μ' n = some k ∨ ∃ j, μ' n = some j ∧ plt (pr W n j) (pr W n k) := by
  refine pair_ind (W := W) (P := fun n k => μ n = some k → μ' n = some k ∨ ∃ j, μ' n = some j ∧ plt (pr W n j) (pr W n k)) fun n hn k hk ih h => ?_
  by_cases hx : μ' n = some k ∨ ∃ j, μ' n = some j ∧ plt (pr W n j) (pr W n k)
  · exact hx
  · exfalso
    have hb : bet W n k (μ' n) := by
      cases e : μ' n with
      | none => exact trivial
      | some j =>
        rcases plt_tri (pr W n k) (pr W n j) with z | z | z
        · exact z
        · obtain ⟨_, rfl⟩ := pr_inj z
          exact absurd (.inl e) hx
        · exact absurd (.inr ⟨j, e, z⟩) hx
    obtain ⟨f1, f2⟩ := S'.stab n hn k (hK k hk) (S.dom n k h).2.2 hb
    have hle : many N μ k ≤ many N μ' k := by
      have h1 := S.cap k hk
      have h2 := hc k hk
      omega
    have hne : ¬ μ' n = some k := fun z => hx (.inl z)
    obtain ⟨m, hm, q1, q2⟩ := countP_swap hle hn (decide_eq_true h) (decide_eq_false hne)
    have q1' := of_decide_eq_true q1
    have q2' := of_decide_eq_false q2
    have hmn := f2 m hm q1'
    cases e : μ m with
    | none =>
      have := (S.stab m hm k hk (S'.dom m k q1').2.2 (by rw [e]; exact trivial)).2 n hn h
      exact plt_asymm this hmn
    | some j =>
      have hj := (S.dom m j e).2.1
      rcases plt_tri (pr W m k) (pr W m j) with z | z | z
      · have := (S.stab m hm k hk (S'.dom m k q1').2.2 (by rw [e]; exact z)).2 n hn h
        exact plt_asymm this hmn
      · obtain ⟨_, rfl⟩ := pr_inj z
        exact q2' e
      · rcases ih m hm j hj (plt_trans z hmn) e with y | ⟨i, y, y2⟩
        · rw [q1'] at y
          cases y
          exact plt_irrefl _ z
        · rw [q1'] at y
          cases y
          exact plt_asymm z y2
/-- the deal is one -/
theorem StabA.one (S : StabA W ok N K c μ) (S' : StabA W ok N K c μ') : ∀ n ∈ N, μ n = μ' n := fun n hn => by
  cases e : μ n with
  | some k =>
    have hk := (S.dom n k e).2.1
    rcases S.mono S' (fun _ h => h) (fun _ _ => Int.le_refl _) n hn k hk e with h | ⟨j, h, h2⟩
    · exact h.symm
    · have hj := (S'.dom n j h).2.1
      rcases S'.mono S (fun _ h => h) (fun _ _ => Int.le_refl _) n hn j hj h with g | ⟨i, g, g2⟩
      · rw [e] at g
        cases g
        exact absurd h2 (plt_irrefl _)
      · rw [e] at g
        cases g
        exact (plt_asymm h2 g2).elim
  | none =>
    cases e' : μ' n with
    | none => rfl
    | some j =>
      have hj := (S'.dom n j e').2.1
      rcases S'.mono S (fun _ h => h) (fun _ _ => Int.le_refl _) n hn j hj e' with g | ⟨i, g, g2⟩
      · rw [e] at g; cases g
      · rw [e] at g; cases g
end
end RD

set_option autoImplicit false
set_option linter.all false
namespace RD
section
variable {W : Int → Int → Int} {ok : Int → Int → Prop} {N K : List Int} {c : Int → Int} {μ μ' : Int → Option Int} {x : Int}
/-! ### the deal up to a pair -/
end
end RD

set_option autoImplicit false
set_option linter.all false
namespace RD
section
variable {W W' : Int → Int → Int} {ok : Int → Int → Prop} {N K K' : List Int} {c c' : Int → Int} {μ μ' : Int → Option Int}
end
end RD

set_option autoImplicit false
set_option maxRecDepth 100000
set_option linter.all false
set_option Elab.async false
namespace L2
open PySem PySem.Spec PyProof.Rows
def lexLe (a b : List Int) : Prop := TS.lexB b a = false
/-! ### products of large ints -/
theorem bits_of {i : Int} {k : Nat} (h : i.natAbs < 2 ^ k) : Builtin.Int.intBits i ≤ k := by
  unfold Builtin.Int.intBits
  split
  · exact Nat.zero_le _
  · rename_i z
    have hz : i.natAbs ≠ 0 := fun e => z (by
      have : i = 0 := Int.natAbs_eq_zero.mp e
      subst this
      rfl)
    have := (Nat.log2_lt hz).mpr h
    omega
def CMulB (i j : Int) : Prop := i.natAbs < 2 ^ 1000 ∧ j.natAbs < 2 ^ 1000
theorem CMulB.ok {i j : Int} (h : CMulB i j) : IntMulOk i j :=
  .of_bits (Nat.le_trans (bits_of h.1) (by decide)) (Nat.le_trans (bits_of h.2) (by decide))
section
variable {X : Cx}
theorem op_mulB : OpR X (binaryOp .Mult) (rI CMulB fun i j => .int (i * j)) := opI fun _ _ _ _ _ _ _ hc q => mul_int q hc.ok
/-! ### int(text), text * int -/
theorem call_int_text : CallR X (.type "int") (fun xs H Q => ∃ x n, xs = [.str x] ∧ PySem.intText? x = some n ∧ x.length ≤ 640 ∧ Q (.int n) H) := by
  intro pins s σ H xs us Q I r h
  obtain ⟨x, n, rfl, hn, hl, q⟩ := h
  obtain ⟨u, rfl, ru⟩ := vals1 r
  obtain ⟨t, rfl⟩ := ru
  exact PySem.W.KIN.call_text hn hl ⟨.int n, H, I.tok _, ⟨_, rfl⟩, q⟩
/-! ### sorted -/
theorem call_sortedI : CallR X (.builtin "sorted") (fun xs H Q => ∃ (a : Addr) (ns : List Int), xs = [.ref a] ∧ SqL X.K H a (ns.map V.int) ∧ ns.length < 64 ∧
    ∀ (l : Addr) (ns' : List Int), H l = none → ns'.Perm ns → ns'.Pairwise (· ≤ ·) → Q (.ref l) (upd H l (.lst (ns'.map V.int)))) := by
  intro pins s σ H xs us Q I r h
  obtain ⟨a, ns, rfl, hq, h64, k⟩ := h
  obtain ⟨u, rfl, ru⟩ := vals1 r
  cases ru
  obtain ⟨its, rv, p, hz⟩ := I.list hq
  have hI := intsAre_of rv
  refine TS.sorted_of_ints p.isList (by rw [← rv.length]; exact hz) (by rw [← rv.length, List.length_map]; exact h64) hI fun out ns' a1 a2 a3 => ?_
  obtain ⟨e, he⟩ := sortedAll_at s.heap its out
  have hf : H (s.heap.objs.size + 1) = none := I.hok.fresh (Nat.le_succ _)
  refine ⟨.ref _, _, I.laid (t' := s.toks) (fun b o q => sortedAll_old q) (Nat.le_succ _) ?_, rfl, k _ ns' hf a2 a3⟩
  refine ⟨?_, out.toList, e, vals_ints a1, by rw [he]⟩
  rw [List.length_map, a2.length_eq]
  simpa using hz
theorem vals_refs : ∀ {bs : List Addr} {us : List Value}, Vals (bs.map V.ref) us → us = bs.map Value.ref
  | [], us, r => by cases r; rfl
  | b :: bs, us, r => by
    cases r with
    | cons r1 r2 =>
      cases r1
      rw [vals_refs r2]
      rfl
theorem refs_vals : ∀ (bs : List Addr), Vals (bs.map V.ref) (bs.map Value.ref)
  | [] => .nil
  | b :: bs => .cons rfl (refs_vals bs)
def addrOfV : Value → Addr
  | .ref a => a
  | _ => 0
theorem call_sortedT : CallR X (.builtin "sorted") (fun xs H Q => ∃ (a : Addr) (bs : List Addr) (f : Addr → List Int), xs = [.ref a] ∧ SqL X.K H a (bs.map V.ref) ∧ (∀ b ∈ bs, f b ≠ [] ∧ H b = some (.tup ((f b).map V.int))) ∧ bs.length < 64 ∧
    ∀ (l : Addr) (bs' : List Addr), H l = none → bs'.Perm bs → (bs'.map f).Pairwise lexLe → Q (.ref l) (upd H l (.lst (bs'.map V.ref)))) := by
  intro pins s σ H xs us Q I r h
  obtain ⟨a, bs, f, rfl, hq, hf, h64, k⟩ := h
  obtain ⟨u, rfl, ru⟩ := vals1 r
  cases ru
  obtain ⟨its, rv, p, hz⟩ := I.list hq
  have e0 := vals_refs rv
  subst e0
  have tup : ∀ b ∈ bs, ∃ its : List Value, IsTup s.heap b its.toArray ∧ IntsAre its (f b) := fun b hb => by
    obtain ⟨_, its, r2, t⟩ := I.hok b _ (hf b hb).2
    exact ⟨its, t, intsAre_of r2⟩
  refine TS.sorted_of_tups p.isList (by rw [← rv.length]; exact hz) (by rw [← rv.length, List.length_map]; exact h64) (fun v hv => ?_) fun out a1 a2 => ?_
  · obtain ⟨b, hb, rfl⟩ := List.mem_map.mp hv
    obtain ⟨its, t, hI⟩ := tup b hb
    exact ⟨b, _, f b, rfl, t, by simpa using hI, (hf b hb).1⟩
  · have hout : out.toList = (out.toList.map addrOfV).map Value.ref := by
      rw [List.map_map]
      have : ∀ v ∈ out.toList, v = (Value.ref ∘ addrOfV) v := fun v hv => by
        obtain ⟨b, _, rfl⟩ := List.mem_map.mp (a1.mem_iff.mp hv)
        rfl
      exact (List.map_id _).symm.trans (List.map_congr_left this)
    have hperm : (out.toList.map addrOfV).Perm bs := by
      have := a1.map addrOfV
      rw [List.map_map] at this
      have e2 : bs.map (addrOfV ∘ Value.ref) = bs := List.map_id _
      rw [e2] at this
      exact this
    obtain ⟨e, he⟩ := sortedAll_at s.heap (bs.map Value.ref) out
    have hf' : H (s.heap.objs.size + 1) = none := I.hok.fresh (Nat.le_succ _)
    refine ⟨.ref _, _, I.laid (t' := s.toks) (fun b o q => sortedAll_old q) (Nat.le_succ _) ?_, rfl, k _ (out.toList.map addrOfV) hf' hperm ?_⟩
    · refine ⟨?_, out.toList, e, ?_, by rw [he]⟩
      · rw [List.length_map, hperm.length_eq]
        simpa using hz
      · have := refs_vals (out.toList.map addrOfV)
        rw [← hout] at this
        exact this
    · rw [List.pairwise_map]
      rw [hout, List.pairwise_map] at a2
      refine List.Pairwise.imp_of_mem ?_ a2
      intro x y hx hy hxy
      obtain ⟨ix, tx, Ix⟩ := tup x (hperm.mem_iff.mp hx)
      obtain ⟨iy, ty, Iy⟩ := tup y (hperm.mem_iff.mp hy)
      rw [TS.tupOf_at tx (by simpa using Ix), TS.tupOf_at ty (by simpa using Iy)] at hxy
      exact hxy
/-! ### isinstance(x, T), T a built-in type or several in a tuple -/
theorem call_isinst : CallR X (.builtin "isinstance") (fun xs H Q => ∃ x n t b, xs = [x, .ty n] ∧ TyOf X.K H x t ∧ PySem.W.kitOne X.K t (.type n) = some b ∧ Q (.bl b) H) := by
  intro pins s σ H xs us Q I r h
  obtain ⟨x, n, t, b, rfl, ty, e, q⟩ := h
  obtain ⟨u, v, rfl, rx, rv⟩ := vals2 r
  cases rv
  exact isinst_ok I rx ty e fun tk => ⟨.bl b, H, I.tok tk, rfl, q⟩
/-! ### list(d): the keys -/
theorem key_val {P : Program} {w : World} {k : Key} {v : Value} (h : (mixKind P w).is k v = true) : RelV (kV k) v := by
  rcases keyIs_shape (show keyIs k v = true from h) with ⟨i, t, rfl, rfl⟩ | ⟨x, t, rfl, rfl⟩
  · exact ⟨t, rfl⟩
  · exact ⟨t, rfl⟩
theorem vals_at : ∀ {xs : List V} {us : List Value}, us.length = xs.length → (∀ (j : Nat) (v : Value), us[j]? = some v → ∃ x, xs[j]? = some x ∧ RelV x v) → Vals xs us
  | [], [], _, _ => .nil
  | [], _ :: _, h, _ => by simp at h
  | _ :: _, [], h, _ => by simp at h
  | x :: xs, u :: us, h, k => by
    obtain ⟨y, hy, ry⟩ := k 0 u rfl
    cases hy
    exact .cons ry (vals_at (by simpa using h) fun j v e => by simpa using k (j + 1) v (by simpa using e))
theorem call_listD (hc : X.calm = true) : CallR X (.type "list") (fun xs H Q => ∃ a kvs, xs = [.ref a] ∧ Rd H a (.dK kvs) ∧ ∀ l, H l = none → Q (.ref l) (upd H l (.lst (kvs.map fun kv => kV kv.1)))) := by
  intro pins s σ H xs us Q I r h
  obtain ⟨a, kvs, rfl, ha, q⟩ := h
  obtain ⟨u, rfl, ru⟩ := vals1 r
  cases ru
  obtain ⟨hz, lo, vs, rel, d⟩ := dk_rd I.hok ha
  obtain ⟨o, es, ep, ho, hx, hd, hk, hp, hn⟩ := id d
  have hl := rel.length
  have hm : s.heap.DictAt (mixKind X.prog X.w) a vs ep := ⟨o, es, ho, hx, hd, hk, hp, hn⟩
  refine PySem.W.kdl_call (PySem.W.kdl_dict (knd := mixKind X.prog X.w) lo) (I.ok.hd hc) hm (by omega) fun h' tk acc' c' kp hD hI => ?_
  refine ⟨.ref s.heap.objs.size, _, I.laid (t' := tk) kp (Nat.le_refl _) ?_, rfl, q _ (I.hok.fresh (Nat.le_refl _))⟩
  refine ⟨by rw [List.length_map]; exact hz, acc'.toList, c', vals_at ?_ fun j v e => ?_, hD⟩
  · rw [Array.length_toList, List.length_map]
    rw [hI.1, hl]
  · obtain ⟨k, x, hkx, his⟩ := hI.2 j v (by rw [← Array.getElem?_toList]; exact e)
    have hkeys := rel.keys
    have e1 : (kvs.map (·.1))[j]? = some k := by
      rw [hkeys, List.getElem?_map, hkx]
      rfl
    rw [List.getElem?_map] at e1
    rw [List.getElem?_map]
    cases e2 : kvs[j]? with
    | none => rw [e2] at e1; cases e1
    | some kv =>
      rw [e2] at e1
      cases e1
      exact ⟨_, rfl, key_val his⟩
end
end L2

set_option autoImplicit false
set_option maxRecDepth 100000
set_option linter.all false
set_option Elab.async false
namespace L2
open PySem PySem.Spec PyProof.Rows
/-! ### comprehensions: a block of its own, the names around it by their cells -/
structure CScope (osc : Scope) (N0 N' : List Str) (sel : List (Option Nat)) (scope : Scope) : Prop where
  kind : scope.kind = .function
  nocell : ∀ y ∈ scope.names, y.2 ≠ .cell
  names : ∀ y ∈ scope.names, y.2 = .local → scope.names.lookup y.1 = some .local
  len : sel.length = N'.length
  nd : N'.Nodup
  fr : ∀ y ∈ scope.names, y.2 = .free → osc.names.lookup y.1 = some .cell
  sel : ∀ (j : Nat) (i : Nat), j < sel.length → sel[j]? = some (some i) → ∃ x, N'[j]? = some x ∧ N0[i]? = some x ∧ scope.names.lookup x = some .free
def selOf (sel : List (Option Nat)) (σ : St) : St := sel.map fun o => o.bind fun i => (σ[i]?).join
theorem forIn_pure_inv {α β : Type} {f : α → β → Sem (ForInStep β)} (P : List α → β → Prop) (hf : ∀ x r b, P (x :: r) b → ∃ b', f x b = pure (.yield b') ∧ P r b') :
    ∀ (l : List α) (b : β), P l b → ∃ b', (forIn l b f : Sem β) = pure b' ∧ P [] b'
  | [], b, h => ⟨b, by rw [List.forIn_nil], h⟩
  | x :: l, b, h => by
    obtain ⟨b1, e1, h1⟩ := hf x l b h
    obtain ⟨b2, e2, h2⟩ := forIn_pure_inv P hf l b1 h1
    refine ⟨b2, ?_, h2⟩
    rw [List.forIn_cons, e1, pure_bind]
    exact e2
theorem closure_of {scope : Scope} {env : Env} (h : ∀ y ∈ scope.names, y.2 = .free → ∃ c, env.cells.lookup y.1 = some c) :
    ∃ cl, closureFor scope env = pure cl ∧ (∀ x c, cl.lookup x = some c → env.cells.lookup x = some c) ∧ ∀ x, (x, NameKind.free) ∈ scope.names → cl.lookup x = env.cells.lookup x := by
  obtain ⟨cl, e, h1, h2, _⟩ := forIn_pure_inv (f := fun (y : Str × NameKind) (cs : List (Str × Addr)) => if (y.2 == NameKind.free) = true then (do let c ← cellOf env y.1; pure (ForInStep.yield ((y.1, c) :: cs))) else pure (ForInStep.yield cs))
    (fun rest cs => (∀ x c, cs.lookup x = some c → env.cells.lookup x = some c) ∧ (∀ x, (x, NameKind.free) ∈ scope.names → (x, NameKind.free) ∈ rest ∨ cs.lookup x = env.cells.lookup x) ∧ ∀ y ∈ rest, y ∈ scope.names)
    (fun y r cs ⟨p1, p2, p3⟩ => by
      obtain ⟨n, k⟩ := y
      by_cases hk : k = .free
      · subst hk
        obtain ⟨c, hc⟩ := h (n, .free) (p3 _ List.mem_cons_self) rfl
        refine ⟨(n, c) :: cs, ?_, fun x d hd => ?_, fun x hx => ?_, fun y hy => p3 y (List.mem_cons_of_mem _ hy)⟩
        · have hc' : cellOf env n = pure c := by
            unfold cellOf
            rw [show env.cells.lookup n = some c from hc]
          simp only [beq_self_eq_true, if_true]
          rw [hc', pure_bind]
        · rw [List.lookup_cons] at hd
          cases e : x == n with
          | true =>
            rw [e] at hd
            cases hd
            rw [eq_of_beq e]
            exact hc
          | false =>
            rw [e] at hd
            exact p1 x d hd
        · rw [List.lookup_cons]
          cases e : x == n with
          | true =>
            rw [eq_of_beq e]
            exact .inr hc.symm
          | false =>
            rcases p2 x hx with z | z
            · rcases List.mem_cons.mp z with z | z
              · have : x = n := (Prod.mk.inj z).1
                rw [this] at e
                simp at e
              · exact .inl z
            · exact .inr z
      · refine ⟨cs, ?_, p1, fun x hx => ?_, fun y hy => p3 y (List.mem_cons_of_mem _ hy)⟩
        · have : (k == NameKind.free) = false := by simpa using hk
          simp only [this, Bool.false_eq_true, if_false]
        · rcases p2 x hx with z | z
          · rcases List.mem_cons.mp z with z | z
            · exact absurd (Prod.mk.inj z).2.symm hk
            · exact .inl z
          · exact .inr z)
    scope.names [] ⟨fun x c hc => by simp at hc, fun x hx => .inl hx, fun y hy => hy⟩
  refine ⟨cl, ?_, h1, fun x hx => (h2 x hx).resolve_left (by simp)⟩
  simp only [closureFor, bind_pure]
  exact e
/-- the block's context -/
abbrev compCx (X : Cx) (scope : Scope) (cl : List (Str × Addr)) (N' : List Str) (s₀ : Shared) (H₀ : Hp) (fp : List Addr) : Cx :=
  { X with N := N', s₀ := s₀, H₀ := H₀, env := compEnvC scope cl s₀.heap.objs.size X.env, outer := X.stack, ex := fp, fn := fun _ => false, pn := [], xe := fun _ _ => False }
theorem lookup_relabel_free {env : Env} {x : Str} (hk : env.scope.kind = .function) (hx : env.kindOf x = some .cell) : ∀ {names : List (Str × NameKind)}, names.lookup x = some .free →
    (names.map fun (n, k) => if (k == NameKind.free && env.scope.kind == .function && env.kindOf n == some .cell) then (n, NameKind.cell) else (n, k)).lookup x = some .cell
  | [], h => by simp at h
  | (n, k) :: r, h => by
    have ih := @lookup_relabel_free env x hk hx r
    show List.lookup x ((if (k == NameKind.free && env.scope.kind == .function && env.kindOf n == some .cell) = true then (n, NameKind.cell) else (n, k)) :: _) = _
    cases e : x == n with
    | true =>
      simp only [List.lookup_cons, e] at h
      cases h
      have en : x = n := eq_of_beq e
      subst en
      rw [if_pos (by rw [hk, hx]; rfl)]
      simp [List.lookup_cons]
    | false =>
      simp only [List.lookup_cons, e] at h
      split
      · simp only [List.lookup_cons, e]; exact ih h
      · simp only [List.lookup_cons, e]; exact ih h
theorem relabel_kinds {env : Env} {x : Str} {k' : NameKind} : ∀ {names : List (Str × NameKind)},
    (names.map fun (n, k) => if (k == NameKind.free && env.scope.kind == .function && env.kindOf n == some .cell) then (n, NameKind.cell) else (n, k)).lookup x = some k' → (k' = .cell ∨ k' = .free) →
    (∀ y ∈ names, y.2 ≠ NameKind.cell) → (x, NameKind.free) ∈ names
  | [], h, _, _ => by simp at h
  | (n, k) :: r, h, hk, hn => by
    have ih := @relabel_kinds env x k' r
    have h' : List.lookup x ((if (k == NameKind.free && env.scope.kind == .function && env.kindOf n == some .cell) = true then (n, NameKind.cell) else (n, k)) ::
      (r.map fun (n, k) => if (k == NameKind.free && env.scope.kind == .function && env.kindOf n == some .cell) then (n, NameKind.cell) else (n, k))) = some k' := h
    have tail : ∀ {z}, List.lookup x ((n, z) :: (r.map fun (n, k) => if (k == NameKind.free && env.scope.kind == .function && env.kindOf n == some .cell) then (n, NameKind.cell) else (n, k))) = some k' → (x == n) = false → (x, NameKind.free) ∈ (n, k) :: r := fun {z} q e => by
      simp only [List.lookup_cons, e] at q
      exact List.mem_cons_of_mem _ (ih q hk fun y hy => hn y (List.mem_cons_of_mem _ hy))
    cases e : x == n with
    | true =>
      have en : x = n := eq_of_beq e
      subst en
      by_cases z : (k == NameKind.free && env.scope.kind == .function && env.kindOf x == some .cell) = true
      · have z1 : k = .free := by
          rw [Bool.and_eq_true, Bool.and_eq_true] at z
          exact eq_of_beq z.1.1
        rw [z1]
        exact List.mem_cons_self
      · rw [if_neg z] at h'
        simp only [List.lookup_cons, beq_self_eq_true] at h'
        cases h'
        rcases hk with hk | hk
        · exact absurd hk (hn _ List.mem_cons_self)
        · rw [hk]
          exact List.mem_cons_self
    | false =>
      split at h'
      · exact tail h' e
      · exact tail h' e
section
variable {X : Cx} {pins : List (Addr × Obj)} {σ : St} {H : Hp} {s : Shared}
/-- the block begins: its frame is the next address -/
theorem inv_comp {osc : Scope} {N0 N' : List Str} {sel : List (Option Nat)} {scope : Scope} {cl : List (Str × Addr)} {fp : List Addr} {h1 : Heap} {t1 : Nat} (S : CScope osc N0 N' sel scope) (I : Inv X pins σ H s)
    (hosc : X.env.scope = osc) (hN0 : X.N = N0) (c1 : ∀ x c, cl.lookup x = some c → X.env.cells.lookup x = some c) (c2 : ∀ x, (x, NameKind.free) ∈ scope.names → cl.lookup x = X.env.cells.lookup x)
    (hf : ∀ b ∈ fp, FpOk X pins H b) (hfs : ∀ b ∈ fp, b < s.heap.objs.size) (hns : h1.Ns s.heap.objs.size fun _ => none) (hk : ∀ b o, s.heap.get? b = some o → h1.get? b = some o) :
    Inv (compCx X scope cl N' s H fp) [] (selOf sel σ) H { s with heap := h1, toks := t1 } := by
  have fnk : X.env.scope.kind = .function := I.ok.kind
  have relab : ∀ x k', (compEnvC scope cl s.heap.objs.size X.env).kindOf x = some k' → (k' = .cell ∨ k' = .free) → (x, NameKind.free) ∈ scope.names := fun x k' e hk' => relabel_kinds e hk' S.nocell
  have hcell : ∀ x, (x, NameKind.free) ∈ scope.names → ∃ c, X.env.cells.lookup x = some c := fun x hx => I.ok.has x (.inl (by
    show X.env.scope.names.lookup x = _
    rw [hosc]
    exact S.fr (x, .free) hx rfl))
  have stkno : ∀ b ∈ fp, b ∉ frs X.stack := fun b hb z => by
    rcases List.mem_cons.mp (I.stkSub b z) with e | e
    · exact (hf b hb).2.1 e
    · exact (hf b hb).2.2.1 e
  refine ⟨⟨I.ok.mod, by show (relabel scope X.env).kind = _; exact S.kind, I.ok.glob, I.ok.blt, Nat.le_refl _, fun x y c e1 e2 => I.ok.inj x y c (c1 x c e1) (c1 y c e2), fun x hx => ?_, (fun x c e => by cases e), I.ok.hd, I.ok.frames, .inl rfl,
    fun b hb => ⟨Nat.ne_of_lt (hfs b hb), fun x c e => (hf b hb).2.2.2.2.1 x c (c1 x c e)⟩, I.bs, Nat.le_trans I.ok.bsz I.sz, fun b o e hb => ?_, stkno, I.stack, I.stkFree⟩,
    rfl, I.bare, Un.kept hk, ⟨_, hns, fun j x v e1 e2 e3 => ?_⟩, fun x c e => ?_, I.hok.fresh (Nat.le_refl _), fun x c e => I.freeC x c (c1 x c e), fun p hp => absurd (show p ∈ ([] : List (Addr × Obj)) from hp) (by simp), I.hok.kept hk, ?_⟩
  · rcases hx with hx | hx
    · have m := relab x _ hx (.inl rfl)
      obtain ⟨c, hc⟩ := hcell x m
      exact ⟨c, (c2 x m).trans hc⟩
    · have m := relab x _ hx (.inr rfl)
      obtain ⟨c, hc⟩ := hcell x m
      exact ⟨c, (c2 x m).trans hc⟩
  · rcases (hf b hb).2.2.2.1 with z | z
    · exact I.ok.noex b o e z
    · exact absurd (Nat.lt_of_lt_of_le (Heap.lt_size (I.ok.bs b o e).1) z) (Nat.lt_irrefl _)
  · have hj : j < sel.length := by
      rw [S.len]
      exact (List.getElem?_eq_some_iff.mp e1).1
    unfold selOf at e2
    rw [List.getElem?_map] at e2
    cases q : sel[j]? with
    | none => rw [q] at e2; cases e2
    | some o =>
      rw [q] at e2
      cases o with
      | none => cases e2
      | some i =>
        obtain ⟨y, g1, g2, g3⟩ := S.sel j i hj q
        have e1' : N'[j]? = some x := e1
        rw [e1'] at g1
        cases g1
        have e2' : (σ[i]?).join = some v := by
          have : some ((σ[i]?).join) = some (some v) := e2
          exact Option.some.inj this
        have e2'' : σ[i]? = some (some v) := by
          cases z : σ[i]? with
          | none => rw [z] at e2'; cases e2'
          | some w' => rw [z] at e2'; exact congrArg some e2'
        have mfree : (x, NameKind.free) ∈ scope.names := PySem.mem_of_lookup g3
        have kx : X.env.scope.names.lookup x = some .cell := by
          rw [hosc]
          exact S.fr _ mfree rfl
        obtain ⟨m, hm, hl⟩ := I.loc
        obtain ⟨u, ru, lk⟩ := hl i x v (by rw [hN0]; exact g2) e2'' (.inr (.inl kx))
        refine ⟨u, ru, .inr ⟨.inl (lookup_relabel_free fnk kx g3), ?_⟩⟩
        rcases lk with ⟨k1, _⟩ | ⟨_, c, hc, hcell'⟩
        · have : X.env.scope.names.lookup x = some .local := k1
          rw [kx] at this
          cases this
        · obtain ⟨o, ho, hd⟩ := hcell'
          exact ⟨c, (c2 x mfree).trans hc, o, hk c o ho, hd⟩
  · obtain ⟨v, o, ho, hd⟩ := I.cell x c (c1 x c e)
    exact ⟨v, o, hk c o ho, hd⟩
  · show (selOf sel σ).length = N'.length
    unfold selOf
    rw [List.length_map, S.len]
/-- the block ends -/
theorem inv_compEnd {scope : Scope} {cl : List (Str × Addr)} {N' : List Str} {fp : List Addr} {σ' : St} {H' : Hp} {s' : Shared} {h' : Heap} (I : Inv X pins σ H s) (hf : ∀ b ∈ fp, FpOk X pins H b)
    (J : Inv (compCx X scope cl N' s H fp) [] σ' H' s') (hs : Heap.SameBut s.heap.objs.size s'.heap h') : Inv X pins σ H' { s' with heap := h' } := by
  have hC : H' s.heap.objs.size = none := J.free
  have ne : ∀ b o, s.heap.get? b = some o → b ≠ s.heap.objs.size := fun b o e => Nat.ne_of_lt (Heap.lt_size e)
  have up : ∀ b o, b ≠ s.heap.objs.size → s'.heap.get? b = some o → h'.get? b = some o := fun b o hb e => (hs.2 b hb).trans e
  have un := J.base
  refine I.call' (ch := fp) (s' := { s' with heap := h' }) J.os ⟨fun b o e n hb hx => up b o (ne b o e) (un.keep b o e n hb hx), fun b o e n hb hx => ?_, fun b o e n hx => un.free b o e n hx, fun b o e hx => ?_, un.tups, un.frzs, un.tbls⟩ (fun b ob e => ?_) J.bare
    fun b hb => ⟨(hf b hb).2.2.2.1, (hf b hb).2.1, (hf b hb).2.2.2.2.1, (hf b hb).2.2.2.2.2⟩
  · obtain ⟨sl, q⟩ := un.slot b o e n hb hx
    exact ⟨sl, up b _ (ne b o e) q⟩
  · obtain ⟨o', q⟩ := un.there b o e hx
    exact ⟨o', up b o' (ne b o e) q⟩
  · have hne : ∀ c u, H' c = some u → c ≠ s.heap.objs.size := fun c u q z => by rw [z, hC] at q; cases q
    refine (J.hok b ob e).stay (fun c u hc q => up c u ?_ q) (fun _ q => q) fun _ _ q => q
    rcases hc with z | z
    · rw [z]; exact hne b ob e
    · exact hne c _ z
/-- the tests of a comprehension -/
def PF (X : Cx) (ifs : List Expr) (t : TT) : Prop :=
  ∀ (pins : List (Addr × Obj)) (s : Shared) (σ : St) (H : Hp) (Q : Bool → Hp → Prop), Inv X pins σ H s → t σ H Q →
    wpAny (model X.prog X.w) X.A (forIn ifs true fun c r => if r = true then do let ok ← isTrue c X.env (eval c X.env); pure (ForInStep.yield ok) else pure (ForInStep.yield r)) (TP X pins σ Q) X.xe s
def tNoIf : TT := fun _ H Q => Q true H
theorem pf_nil {X : Cx} : PF X [] tNoIf := fun _ _ _ H _ I h => wpAny_tests_nil ⟨H, I, h⟩
theorem pf_one {X : Cx} {c : Expr} {t : TT} (h : PT X c t) : PF X [c] t := fun pins s σ H Q I hw => wpAny_tests_one (h pins s σ H Q I hw)
/-- one turn after another: W the invariant with its measure, the items so far stand at p -/
def compW (J : It) (g : TG) (tif : TT) (te : TE) (p : Addr) (σ0 : St) (H0 : Hp) (Q : VK) : Prop :=
  ∃ W : Nat → Nat → St → Hp → Prop, (∃ m, W 0 m σ0 H0) ∧ ∀ i m σ2 H2, W i m σ2 H2 → (J.stop i H2 ∧ Q (.ref p) H2) ∨ (J.go i H2 ∧ ∃ N : St → Hp → Prop, (∀ σ' H', N σ' H' → ∃ m', m' < m ∧ W (i + 1) m' σ' H') ∧
    ∀ x H', J.yld i H2 x H' → g x σ2 H' fun σ3 H3 => tif σ3 H3 fun b H4 => if b = true then te σ3 H4 fun v H5 => ∃ xs, H5 p = some (.lst xs) ∧ xs.length < sizeLine ∧ N σ3 (upd H5 p (.lst (xs ++ [v]))) else N σ3 H4)
theorem comp_run {osc : Scope} {N0 N' : List Str} {sel : List (Option Nat)} {scope : Scope} {cl : List (Str × Addr)} {fp : List Addr} {it : Addr} {tn : Nat → Heap → Prop} {J : It} {tg iter elt : Expr} {ifs : List Expr} {pos : Pos} {g : TG} {tif : TT} {te : TE} {Q : VK}
    {RR : Value → Addr → Result → Shared → Prop} {E : Value → Shared → Prop} (S : CScope osc N0 N' sel scope) (hcalm : X.calm = true) (hosc : X.env.scope = osc) (hN0 : X.N = N0)
    (c1 : ∀ x c, cl.lookup x = some c → X.env.cells.lookup x = some c) (c2 : ∀ x, (x, NameKind.free) ∈ scope.names → cl.lookup x = X.env.cells.lookup x)
    (hg : ∀ s₀ H₀, PG (compCx X scope cl N' s₀ H₀ fp) tg g) (hif : ∀ s₀ H₀, PF (compCx X scope cl N' s₀ H₀ fp) ifs tif) (he : ∀ s₀ H₀, PE (compCx X scope cl N' s₀ H₀ fp) elt te)
    (I : Inv X pins σ H s) (T : Turn X.prog X.w X.K tg J fp it tn) (st : tn 0 s.heap) (hf : ∀ b ∈ fp, FpOk X pins H b)
    (body : ∀ p, H p = none → compW J g tif te p (selOf sel σ) (upd H p (.lst [])) Q)
    (hRR : ∀ (p : Addr) (s3 s' : Shared) (σ' : St) (H' : Hp), Inv X pins σ (upd H p (.lst [])) s3 → (∀ b ∈ fp, FpOk X pins (upd H p (.lst [])) b) → Inv (compCx X scope cl N' s3 (upd H p (.lst [])) fp) [] σ' H' s' → Q (.ref p) H' → RR (.ref p) s3.heap.objs.size (.ok .next) s') :
    wpAny (model X.prog X.w) X.A (newList []) (fun acc s₃ => wpAny (model X.prog X.w) X.A (newFunctionEnv scope X.env.globals cl [] X.env.qual none .none (some X.env)) (fun cenv s₄ =>
      codeAny (model X.prog X.w) X.A (.compStart (.ListComp elt [⟨tg, iter, ifs, 0⟩] scope pos) 0 (.ref it) acc { cenv with scope := relabel scope X.env }) (RR acc cenv.locals) s₄) E s₃) E s := by
  refine wpAny_newObj_type (wpAny_newFunctionEnv S.nocell (by intro y hy; simp at hy) (fun h₁ hns hsb => ?_) S.kind)
  dsimp only at hns hsb ⊢
  have hp : H s.heap.objs.size = none := I.hok.fresh (Nat.le_refl _)
  have I3 : Inv X pins σ (upd H s.heap.objs.size (.lst [])) { s with heap := s.heap.push { cls := .type "list", dict := none, data := .seq ([] : List Value).toArray } } :=
    I.laid (t' := s.toks) (fun b u e => Heap.get?_push_of_some _ e) (Nat.le_refl _) ⟨Nat.zero_le _, [], 0, .nil, Heap.get?_push_size _ rfl⟩
  have hfl : ∀ b ∈ fp, b < s.heap.objs.size := fun b hb => by
    obtain ⟨o, e, _⟩ := T.obj 0 _ st b hb
    exact Heap.lt_size e
  have hf3 : ∀ b ∈ fp, FpOk X pins (upd H s.heap.objs.size (.lst [])) b := fun b hb => by
    have := hf b hb
    refine ⟨?_, this.2⟩
    rw [upd_ne (Nat.ne_of_lt (hfl b hb))]
    exact this.1
  obtain ⟨W, ⟨m0, w0⟩, turn⟩ := body _ hp
  have fin := fun s' σ' H' => hRR s.heap.objs.size { s with heap := s.heap.push { cls := .type "list", dict := none, data := .seq ([] : List Value).toArray } } s' σ' H' I3 hf3
  generalize hH3 : upd H s.heap.objs.size (.lst []) = H3 at I3 hf3 w0 fin
  have hpl : ∀ xs : List V, True := fun _ => trivial
  generalize hP : s.heap.objs.size = p at *
  generalize hs3 : ({ s with heap := s.heap.push { cls := .type "list", dict := none, data := .seq ([] : List Value).toArray } } : Shared) = s3 at I3 fin
  have e3 : s.heap.push { cls := .type "list", dict := none, data := .seq ([] : List Value).toArray } = s3.heap := by rw [← hs3]
  rw [e3] at hns hsb ⊢
  have kept : ∀ b o, s3.heap.get? b = some o → h₁.get? b = some o := fun b o e => hsb.extBut b o (Nat.ne_of_lt (Heap.lt_size e)) (Heap.get?_push_of_some _ e)
  have old : ∀ b o, s.heap.get? b = some o → h₁.get? b = some o := fun b o e => kept b o (by rw [← e3]; exact Heap.get?_push_of_some _ e)
  have hfs3 : ∀ b ∈ fp, b < s3.heap.objs.size := fun b hb => by
    rw [← e3, Heap.size_push, hP]
    exact Nat.lt_succ_of_lt (hfl b hb)
  have J0 : ∀ t1, Inv (compCx X scope cl N' s3 H3 fp) [] (selOf sel σ) H3 { s3 with heap := h₁, toks := t1 } := fun t1 =>
    inv_comp S I3 hosc hN0 c1 c2 hf3 hfs3 (by simpa using hns) kept
  have tn0 : tn 0 h₁ := T.keep 0 _ _ st fun b hb o e => old b o e
  have loop : ∀ t1, codeAny (model X.prog X.w) X.A (.compLoop (.ListComp elt [⟨tg, iter, ifs, 0⟩] scope pos) 0 (.ref it) (.ref p) (compEnvC scope cl s3.heap.objs.size X.env)) (RR (.ref p) s3.heap.objs.size) { s3 with heap := h₁, toks := t1 } := by
    intro t1
    have stat : ∀ {H' : Hp}, (∀ b ∈ fp, H' b = none) → ∀ b ∈ fp, FpOk (compCx X scope cl N' s3 H3 fp) [] H' b := fun hn b hb =>
      ⟨hn b hb, ((J0 t1).ok.exf b hb).1, (J0 t1).ok.exfs b hb, .inl hb, ((J0 t1).ok.exf b hb).2, fun q hq => absurd (show q ∈ ([] : List (Addr × Obj)) from hq) (by simp)⟩
    refine codeAny_loop rfl (fun n s' => ∃ i σ' H', Inv (compCx X scope cl N' s3 H3 fp) [] σ' H' s' ∧ tn i s'.heap ∧ (∀ b ∈ fp, H' b = none) ∧ W i n σ' H') (fun n s5 hI => ?_) m0 ⟨0, _, H3, J0 t1, tn0, fun b hb => (hf3 b hb).1, w0⟩
    obtain ⟨i, σ5, H5, I5, st5, fr5, w5⟩ := hI
    show wpAny _ X.A ((compTurn (.ListComp elt [⟨tg, iter, ifs, 0⟩] scope pos) 0 (.ref it) (.ref p) (compEnvC scope cl s3.heap.objs.size X.env)).onRaise (fun x => do noteFrame x (compEnvC scope cl s3.heap.objs.size X.env); theTreesLotGoes x)) _ _ s5
    refine wpAny_noted ?_
    rw [compTurn_list]
    have no : ∀ {α : Type} {t : Sem α} {Q : α → Shared → Prop} {E' : Value → Shared → Prop} {s : Shared}, wpAny (model X.prog X.w) X.A t Q (fun _ _ => False) s → wpAny (model X.prog X.w) X.A t Q E' s := fun h => wpAny_mono h (fun _ _ q => q) fun _ _ z => False.elim z
    refine wpAny_bind (wpAny_standAt (wpAny_bind ?_))
    rcases turn i n σ5 H5 w5 with ⟨stop, qn⟩ | ⟨go, N, hN, step⟩
    · refine thn (T.done (compCx X scope cl N' s3 H3 fp) rfl rfl rfl hcalm i [] s5 σ5 H5 _ I5 (stat fr5) st5 stop) fun r s6 ⟨hr, I6⟩ => ?_
      subst hr
      exact wpAny_pure (fin s6 σ5 H5 I6 qn)
    · refine thn (T.item (compCx X scope cl N' s3 H3 fp) rfl rfl rfl hcalm i [] s5 σ5 H5 _ I5 (stat fr5) st5 go) fun r s6 ⟨u, hr, h6⟩ => ?_
      subst hr
      refine wpAny_bind (thn h6 fun _ s7 ⟨x, H7, I7, r7, y7, st7, fr7⟩ => ?_)
      have I7' := I7.pinned (stat fr7) (T.obj _ _ st7)
      refine wpAny_bind (thn (no (hg s3 H3 _ s7 σ5 H7 x u _ I7' r7 (step x H7 y7))) fun _ s8 ⟨σ8, H8, I8, q8⟩ => ?_)
      refine wpAny_bind (thn (no (hif s3 H3 _ s8 σ8 H8 _ I8 q8)) fun b s9 ⟨H9, I9, q9⟩ => ?_)
      have again : ∀ {σ' : St} {H' : Hp} {s' : Shared}, Inv (compCx X scope cl N' s3 H3 fp) ([] ++ pinsAt fp s7.heap) σ' H' s' → N σ' H' → ∃ m, m < n ∧ ∃ i σ' H', Inv (compCx X scope cl N' s3 H3 fp) [] σ' H' s' ∧ tn i s'.heap ∧ (∀ b ∈ fp, H' b = none) ∧ W i m σ' H' := fun {σ' H' s'} I' n' => by
        obtain ⟨m', hm, w'⟩ := hN σ' H' n'
        refine ⟨m', hm, i + 1, σ', H', I'.unpinned, T.keep _ _ _ st7 fun b hb o e => (I'.pin (b, o) (List.mem_append_right _ (List.mem_append_right _ (mem_pinsAt hb e)))).1, fun b hb => ?_, w'⟩
        obtain ⟨o, e, d⟩ := T.obj _ _ st7 b hb
        exact (I'.pin (b, o) (List.mem_append_right _ (List.mem_append_right _ (mem_pinsAt hb e)))).2.1
      cases b with
      | false => exact wpAny_pure ⟨rfl, again I9 q9⟩
      | true =>
        refine wpAny_bind (wpAny_bind (thn (no (he s3 H3 _ s9 σ8 H9 _ I9 q9)) fun v s10 ⟨y, H10, I10, r10, xs, hx, hz, q10⟩ => ?_))
        refine wpAny_bind (thn (no (mt_append _ s10 σ8 H10 (.ref p) [y] (.ref p) [v] (fun v' H' => v' = .non ∧ N σ8 H') I10 rfl (.cons r10 .nil) ⟨p, xs, y, rfl, rfl, hx, hz, rfl, q10⟩)) fun _ s11 ⟨_, H11, I11, _, _, q11⟩ => ?_)
        exact wpAny_pure (wpAny_pure ⟨rfl, again I11 q11⟩)
  have es : ∀ t1, ({ s3 with heap := h₁, toks := t1 } : Shared) = { s with heap := h₁, toks := t1 } := fun t1 => by rw [← hs3]
  have L := loop (s.toks + ([] : List (Str × Value)).length)
  rw [es] at L
  exact codeAny_compStart_list L (T.self _ 0 _ _ _ tn0 L)
/-- [elt for tg in iter if ..], as a value -/
def tComp (sel : List (Option Nat)) (wi : TI) (g : TG) (tif : TT) (te : TE) : TE := fun σ H Q => wi σ H fun J H1 => ∀ p, H1 p = none → compW J g tif te p (selOf sel σ) (upd H1 p (.lst [])) Q
theorem pe_comp {osc : Scope} {N0 N' : List Str} {sel : List (Option Nat)} {scope : Scope} {tg iter elt : Expr} {ifs : List Expr} {pos : Pos} {wi : TI} {g : TG} {tif : TT} {te : TE} (S : CScope osc N0 N' sel scope) (hcalm : X.calm = true) (hosc : X.env.scope = osc) (hN0 : X.N = N0)
    (hi : PI X tg iter wi) (hg : ∀ cl s₀ H₀ fp, PG (compCx X scope cl N' s₀ H₀ fp) tg g) (hif : ∀ cl s₀ H₀ fp, PF (compCx X scope cl N' s₀ H₀ fp) ifs tif) (he : ∀ cl s₀ H₀ fp, PE (compCx X scope cl N' s₀ H₀ fp) elt te)
    (hs : ∀ x, foldedSetIterable iter X.env x = pure x := by intro _; rfl) : PE X (.ListComp elt [⟨tg, iter, ifs, 0⟩] scope pos) (tComp sel wi g tif te) := by
  intro pins s σ H Q I h
  have hcell : ∀ y ∈ scope.names, y.2 = .free → ∃ c, X.env.cells.lookup y.1 = some c := fun y hy e => I.ok.has y.1 (.inl (by
    show X.env.scope.names.lookup y.1 = _
    rw [hosc]
    exact S.fr y hy e))
  obtain ⟨cl, hcl, c1, c2⟩ := closure_of hcell
  rw [eval_ListComp]
  refine wpAny_comprehension_free (use := none) rfl hs hcl S.kind S.names (thn (hi pins s σ H _ I h) fun v s1 h1 => thn h1 fun itv s2 h2 => ?_)
  obtain ⟨it, fp, tn, J, H2, e, I2, T, st2, f2, body⟩ := h2
  subst e
  refine comp_run (RR := fun acc C => compPost (model X.prog X.w) X.A X.xe none (EP X pins σ Q) acc C) S hcalm hosc hN0 c1 c2 (fun s₀ H₀ => hg cl s₀ H₀ fp) (fun s₀ H₀ => hif cl s₀ H₀ fp) (fun s₀ H₀ => he cl s₀ H₀ fp) I2 T st2 f2 body ?_
  intro p s3 s' σ' H' I3 hf3 J' q
  obtain ⟨m, hm, _⟩ := J'.loc
  exact ⟨m, hm, fun h' hs' => ⟨.ref p, H', inv_compEnd I3 hf3 J' hs', rfl, q⟩⟩
/-- name = [elt for tg in iter if ..]: stored ahead of the block's end -/
theorem ps_setC {osc : Scope} {N0 N' : List Str} {sel : List (Option Nat)} {scope : Scope} {tg iter elt : Expr} {ifs : List Expr} {pos pos' spos : Pos} {wi : TI} {g : TG} {tif : TT} {te : TE} {i : Nat} {y : Str} (S : CScope osc N0 N' sel scope) (hcalm : X.calm = true) (hosc : X.env.scope = osc) (hN0 : X.N = N0)
    (hN : X.N.Nodup) (hiy : X.N[i]? = some y) (hy : X.env.scope.names.lookup y = some .local) (hi : PI X tg iter wi) (hg : ∀ cl s₀ H₀ fp, PG (compCx X scope cl N' s₀ H₀ fp) tg g) (hif : ∀ cl s₀ H₀ fp, PF (compCx X scope cl N' s₀ H₀ fp) ifs tif) (he : ∀ cl s₀ H₀ fp, PE (compCx X scope cl N' s₀ H₀ fp) elt te)
    (hsw : swapsWith (.ListComp elt [⟨tg, iter, ifs, 0⟩] scope pos) (some (.Name y pos')) spos.line X.env = pure true) (hs : ∀ x, foldedSetIterable iter X.env x = pure x := by intro _; rfl) :
    PS X (.Assign [.Name y pos'] (.ListComp elt [⟨tg, iter, ifs, 0⟩] scope pos) spos) (tAsg (tComp sel wi g tif te) (gName i)) := by
  intro pins s σ H D I h
  have hcell : ∀ y ∈ scope.names, y.2 = .free → ∃ c, X.env.cells.lookup y.1 = some c := fun y hy e => I.ok.has y.1 (.inl (by
    show X.env.scope.names.lookup y.1 = _
    rw [hosc]
    exact S.fr y hy e))
  obtain ⟨cl, hcl, c1, c2⟩ := closure_of hcell
  rw [exec_Assign_Name_used _ _ _ _ hsw]
  refine wpAny_bind (wpAny_standAt (wpAny_bind ?_))
  show wpAny _ X.A (do let _ ← comprehension (.ListComp elt [⟨tg, iter, ifs, 0⟩] scope pos) scope X.env _ (newList []) false (eval iter X.env) (some (assign (.Name y pos') X.env))) _ _ s
  refine wpAny_bind (wpAny_mono (wpAny_comprehension_free (use := some (assign (.Name y pos') X.env)) (Q := fun _ s' => SP X pins D .next s') rfl hs hcl S.kind S.names (thn (hi pins s σ H _ I h) fun v s1 h1 => thn h1 fun itv s2 h2 => ?_)) (fun _ s' hq => wpAny_pure (wpAny_pure hq)) fun _ _ e => e)
  obtain ⟨it, fp, tn, J, H2, e, I2, T, st2, f2, body⟩ := h2
  subst e
  refine comp_run (RR := fun acc C => compPost (model X.prog X.w) X.A X.xe (some (assign (.Name y pos') X.env)) (fun _ s' => SP X pins D .next s') acc C) S hcalm hosc hN0 c1 c2 (fun s₀ H₀ => hg cl s₀ H₀ fp) (fun s₀ H₀ => hif cl s₀ H₀ fp) (fun s₀ H₀ => he cl s₀ H₀ fp) I2 T st2 f2 body ?_
  intro p s3 s' σ' H' I3 hf3 J' q
  obtain ⟨m, hm, _⟩ := J'.loc
  have I4 := inv_compEnd I3 hf3 J' (Heap.SameBut.refl _ _)
  have hCl : s3.heap.objs.size ≠ X.env.locals := fun z => by
    have := I3.lt
    rw [← z] at this
    exact Nat.lt_irrefl _ this
  show wpAny _ X.A (assign (.Name y pos') X.env (.ref p)) _ _ _
  refine wpAny_assign_Name (store_ok2 I4 hN hiy (.inl hy) (v := .ref p) rfl (fun s5 I5 ⟨a, hs5, ha⟩ => ?_) (.inr hy))
  have haC : s3.heap.objs.size ≠ a := by
    rcases ha with z | z
    · rw [z]; exact hCl
    · intro z2
      obtain ⟨v, o, ho, _⟩ := I3.cell y a z
      rw [← z2] at ho
      exact Nat.lt_irrefl _ (Heap.lt_size ho)
  obtain ⟨f0, f1, f2, f3, f4, f5⟩ := I3.fpOk (b := s3.heap.objs.size) (H' := H') (Nat.le_refl _) J'.free
  exact ⟨m, hm.sameBut hs5 haC, fun h' hs' => ⟨_, H', I5.turned (t' := s5.toks) (fun b o hb e => (hs'.2 b hb).trans e) f0 f1 f3 f4 f5, q⟩⟩
end
end L2

set_option autoImplicit false
set_option maxRecDepth 100000
set_option linter.all false
set_option Elab.async false
namespace L2
open PySem PySem.Spec PyProof.Rows
section
variable {X : Cx} {pins : List (Addr × Obj)} {σ : St} {H : Hp} {s : Shared} {d t : Addr}
/-- what is told of a tracked object is told otherwise -/
theorem Inv.swap {o1 o2 : HO} (I : Inv X pins σ H s) (h : H d = some o1) (n1 : ∀ xs, o1 ≠ .tup xs) (n2 : ∀ y, o1 ≠ .own y) (n3 : ∀ ps, o1 ≠ .tbl ps) (n4 : ∀ o u, X.H₀ d ≠ some (.frz o u))
    (ok : ObjOk X.prog X.w (upd H d o2) s.heap d o2) : Inv X pins σ (upd H d o2) s := by
  have nn : ∀ b, H b = none → b ≠ d := fun b e z => by rw [z, h] at e; cases e
  refine ⟨I.ok, I.os, I.bare, ⟨I.base.keep, I.base.slot, fun b o e n hx => ?_, I.base.there, fun b xs e => ?_, fun b o u e => ?_, fun b ps e => ?_⟩, I.loc, I.cell, ?_, fun x c e => ?_, fun p hp => ?_, fun b o e => ?_, I.len⟩
  · have := I.base.free b o e n hx
    rw [upd_ne (nn b this)]
    exact this
  · have := I.base.tups b xs e
    rw [upd_ne (fun z => by rw [z, h] at this; exact n1 xs (Option.some.inj this))]
    exact this
  · have := I.base.frzs b o u e
    rw [upd_ne (fun z => by rw [z] at e; exact n4 o u e)]
    exact this
  · obtain ⟨more, q⟩ := I.base.tbls b ps e
    refine ⟨more, ?_⟩
    rw [upd_ne (fun z => by rw [z, h] at q; exact n3 _ (Option.some.inj q))]
    exact q
  · rw [upd_ne (nn _ I.free)]
    exact I.free
  · have := I.freeC x c e
    rw [upd_ne (nn c this)]
    exact this
  · obtain ⟨a, b, c⟩ := I.pin p hp
    exact ⟨a, by rw [upd_ne (nn _ b)]; exact b, c⟩
  · by_cases z : b = d
    · subst z
      rw [upd_same] at e
      cases e
      exact ok
    · rw [upd_ne z] at e
      refine (I.hok b o e).stay (fun c u _ q => q) (fun c q => ?_) fun c xs q => ?_
      · rw [upd_ne (fun z => by rw [z, h] at q; exact n2 _ (Option.some.inj q))]
        exact q
      · rw [upd_ne (fun z => by rw [z, h] at q; exact n1 _ (Option.some.inj q))]
        exact q
/-- an object of this call's own that was not tracked is tracked from here on -/
theorem Inv.track {o : HO} (I : Inv X pins σ H s) (h : H t = none) (h0 : X.s₀.heap.objs.size ≤ t) (hL : t ≠ X.env.locals) (hc : ∀ x c, X.env.cells.lookup x = some c → c ≠ t) (hp : ∀ p ∈ X.pn ++ pins, p.1 ≠ t)
    (ok : ObjOk X.prog X.w (upd H t o) s.heap t o) : Inv X pins σ (upd H t o) s := by
  have nn : ∀ b u, H b = some u → b ≠ t := fun b u e z => by rw [z, h] at e; cases e
  refine ⟨I.ok, I.os, I.bare, ⟨I.base.keep, I.base.slot, fun b o e n hx => ?_, I.base.there, fun b xs e => ?_, fun b o u e => ?_, fun b ps e => ?_⟩, I.loc, I.cell, ?_, fun x c e => ?_, fun p hp' => ?_, fun b o e => ?_, I.len⟩
  · rw [upd_ne (Nat.ne_of_lt (Nat.lt_of_lt_of_le (Heap.lt_size e) h0))]
    exact I.base.free b o e n hx
  · have := I.base.tups b xs e
    rw [upd_ne (nn _ _ this)]
    exact this
  · have := I.base.frzs b o u e
    rw [upd_ne (nn _ _ this)]
    exact this
  · obtain ⟨more, q⟩ := I.base.tbls b ps e
    exact ⟨more, by rw [upd_ne (nn _ _ q)]; exact q⟩
  · rw [upd_ne (Ne.symm hL)]
    exact I.free
  · rw [upd_ne (hc x c e)]
    exact I.freeC x c e
  · obtain ⟨a, b, c⟩ := I.pin p hp'
    exact ⟨a, by rw [upd_ne (hp p hp')]; exact b, c⟩
  · by_cases z : b = t
    · subst z
      rw [upd_same] at e
      cases e
      exact ok
    · rw [upd_ne z] at e
      refine (I.hok b o e).stay (fun c u _ q => q) (fun c q => ?_) fun c xs q => ?_
      · rw [upd_ne (nn _ _ q)]
        exact q
      · rw [upd_ne (nn _ _ q)]
        exact q
/-- a dict is known to the object, while a loop walks it -/
theorem Inv.freeze {kvs : List (Key × V)} {ob : Obj} (I : Inv X pins σ H s) (h : H d = some (.dK kvs)) (ho : s.heap.get? d = some ob) : (∀ o u, X.H₀ d ≠ some (.frz o u)) ∧ Inv X pins σ (upd H d (.frz ob (.dK kvs))) s := by
  have n4 : ∀ o u, X.H₀ d ≠ some (.frz o u) := fun o u e => by
    have := I.base.frzs d o u e
    rw [h] at this
    cases this
  exact ⟨n4, I.swap h (fun _ z => nomatch z) (fun _ z => nomatch z) (fun _ z => nomatch z) n4 ⟨ho, I.hok d _ h⟩⟩
theorem Inv.thaw {kvs : List (Key × V)} {ob : Obj} (I : Inv X pins σ H s) (h : H d = some (.frz ob (.dK kvs))) (n4 : ∀ o u, X.H₀ d ≠ some (.frz o u)) : Inv X pins σ (upd H d (.dK kvs)) s := by
  obtain ⟨_, q⟩ := I.hok d _ h
  exact I.swap h (fun _ z => nomatch z) (fun _ z => nomatch z) (fun _ z => nomatch z) n4 q
end
/-! ### for k, v in d.items() -/
def Iti (d : Addr) (ob : Obj) (kvs : List (Key × V)) : It :=
  ⟨fun i H => H d = some (.frz ob (.dK kvs)) ∧ i < kvs.length, fun i H x H' => ∃ (t : Addr) (k : Key) (v : V), H t = none ∧ kvs[i]? = some (k, v) ∧ x = .ref t ∧ H' = upd H t (.tup [kV k, v]), fun i H => H d = some (.frz ob (.dK kvs)) ∧ kvs.length ≤ i⟩
theorem key_rel {P : Program} {w : World} {k : Key} {v : Value} (h : (mixKind P w).is k v = true) : RelV (kV k) v := by
  rcases keyIs_shape (show keyIs k v = true from h) with ⟨i, t, rfl, rfl⟩ | ⟨x, t, rfl, rfl⟩
  · exact ⟨t, rfl⟩
  · exact ⟨t, rfl⟩
theorem kv_at : ∀ {kvs : List (Key × V)} {vs : List (Key × Value)} {i : Nat} {k : Key} {v : V}, KV kvs vs → kvs[i]? = some (k, v) → ∃ u, vs[i]? = some (k, u) ∧ RelV v u
  | _, _, _, _, _, .nil, e => by simp at e
  | _, _, 0, _, _, .cons r _, e => by
    simp at e
    subst e
    exact ⟨_, by rw [List.getElem?_cons_zero]; exact congrArg some (Prod.ext r.1.symm rfl), r.2⟩
  | _, _, i + 1, k, v, .cons _ t, e => by
    obtain ⟨u, h1, h2⟩ := kv_at (i := i) t (by simpa using e)
    exact ⟨u, by simpa using h1, h2⟩
theorem dictAt_frz {P : Program} {w : World} {H : Hp} {h : Heap} {d : Addr} {ob : Obj} {kvs : List (Key × V)} {ep : Nat} (ok : HOk P w H h) (e : H d = some (.frz ob (.dK kvs))) (hep : ∃ es, ob.data = .dict es ep) :
    ∃ vs, KV kvs vs ∧ h.DictAt (mixKind P w) d vs ep := by
  obtain ⟨h1, _, _, vs, rel, o, es, ep', ho, hx, hd, hk, hp, hn⟩ := ok d _ e
  rw [h1] at ho
  cases ho
  obtain ⟨es', hd'⟩ := hep
  rw [hd] at hd'
  cases hd'
  exact ⟨vs, rel, _, es, h1, hx, hd, hk, hp, hn⟩
theorem turn_items {P : Program} {w : World} {K : PySem.W.Frag} {elts : List Expr} {x1} {tpos : Pos} (d it : Addr) (ob : Obj) (kvs : List (Key × V)) (ep : Nat) (hep : ∃ es, ob.data = .dict es ep) :
    Turn P w K (.Tuple elts x1 tpos) (Iti d ob kvs) [it] it (fun i h => ∃ ok ov, IsItemIter h it d i kvs.length ep ok ov) where
  mem := by simp
  obj := fun i h st b hb => by
    have e : b = it := by simpa using hb
    subst e
    obtain ⟨ok, ov, st⟩ := st
    exact ⟨_, st, fun v z => by
      have z' : Data.fields _ = Data.cell v := z
      cases z'⟩
  keep := fun i h h' ⟨ok, ov, st⟩ k => ⟨ok, ov, k it (by simp) _ st⟩
  item := by
    intro X hP hw hK hc i pins s σ H E I hf st hg
    subst hP hw hK
    obtain ⟨ok, ov, st⟩ := st
    obtain ⟨hd, hlt⟩ := hg
    obtain ⟨f0, f1, f2, f3, f4, f5⟩ := hf it (by simp)
    obtain ⟨vs, rel, hm⟩ := dictAt_frz I.hok hd hep
    obtain ⟨⟨k, v⟩, hkv⟩ : ∃ p, kvs[i]? = some p := ⟨kvs[i], by simp [hlt]⟩
    obtain ⟨u, hu, ru⟩ := kv_at rel hkv
    have hl := rel.length
    rw [hl] at st
    refine wpAny_pyNext_items_item st hm hu fun key h' hkey hout htup hsz kept => ?_
    refine ⟨_, rfl, wpAny_letOwnedTupleGo_items hout fun h2 hit2 hs2 => ?_⟩
    replace hs2 : Heap.SameBut it h' h2 := hs2
    have hil : it < s.heap.objs.size := Heap.lt_size st
    have I1 : Inv X pins σ H { s with heap := h2 } := I.turned (t' := s.toks) (fun b o hb e => (hs2.2 b hb).trans (kept b o hb e)) f0 f1 f3 f4 f5
    obtain ⟨g0, g1, g2, g3, g4, g5⟩ := I.fpOk (b := s.heap.objs.size) (H' := H) (Nat.le_refl _) (I.hok.fresh (Nat.le_refl _))
    have ht2 : h2.get? s.heap.objs.size = some { cls := .type "tuple", data := .seq #[key, u] } := (hs2.2 _ (Nat.ne_of_gt hil)).trans htup
    refine ⟨.ref s.heap.objs.size, upd H s.heap.objs.size (.tup [kV k, v]), I1.track g0 (Nat.le_trans I.sz (Nat.le_refl _)) g1 g4 g5 ?_, rfl, ⟨_, k, v, g0, hkv, rfl, rfl⟩, ⟨key, u, by rw [hl]; exact hit2⟩, fun b hb => ?_⟩
    · exact ⟨by show 2 ≤ sizeLine; decide, [key, u], .cons (key_rel hkey) (.cons ru .nil), ⟨_, ht2, rfl, _, rfl⟩⟩
    · have e : b = it := by simpa using hb
      subst e
      rw [upd_ne (Nat.ne_of_lt hil)]
      exact f0
  done := by
    intro X hP hw hK hc i pins s σ H E I hf st hg
    subst hP hw hK
    obtain ⟨ok, ov, st⟩ := st
    obtain ⟨hd, hge⟩ := hg
    obtain ⟨f0, f1, f2, f3, f4, f5⟩ := hf it (by simp)
    obtain ⟨vs, rel, hm⟩ := dictAt_frz I.hok hd hep
    have hl := rel.length
    rw [hl] at st
    exact wpAny_pyNext_items_end (I.ok.hd hc) st hm (by simp; omega) fun h' eb => ⟨rfl, I.turned (t' := s.toks) (fun b o hb e => eb b o hb e) f0 f1 f3 f4 f5⟩
  self := fun _ _ _ _ _ ⟨_, _, st⟩ h => PySem.W.kcp_self st h
section
variable {X : Cx} {elts : List Expr} {x1 : Nat} {tpos : Pos}
def iItems (to : TE) : TI := fun σ H R => to σ H fun x H1 => ∃ d kvs, x = .ref d ∧ H1 d = some (.dK kvs) ∧ ∀ ob, R (Iti d ob kvs) (upd H1 d (.frz ob (.dK kvs)))
theorem pi_items {o : Expr} {to : TE} {apos cpos : Pos} (ho : PE X o to) (hbase : attributeBase o "items" X.env (eval o X.env) = eval o X.env := by rfl) (hline : (apos.endLine == cpos.line) = true := by rfl) :
    PI X (.Tuple elts x1 tpos) (.Call (.Attribute o "items" apos) [] [] cpos) (iItems to) := by
  intro pins s σ H R I h
  refine wpAny_Call_method0_late hbase hline (thn (ho pins s σ H _ I h) fun v s1 ⟨x, H1, I1, r1, d, kvs, ex, hd, q⟩ => ?_)
  subst ex
  cases r1
  obtain ⟨hz, lo, vs, rel, dd⟩ := dk_of I1.hok hd
  obtain ⟨ob, es, ep, hob, hx, hdat, hk, hp, hn⟩ := id dd
  refine ⟨"dict", "dict.items", PySem.F.plainAttrs_dict, PySem.F.slot_dict_items, PySem.F.type_dict_items, dd.typeIs, fun a e => by cases e; exact ⟨ob, hob, hx.2.1⟩, Calls.callWith_builtin rfl (PySem.evalArgs_none ?_)⟩
  refine call_meetsIn PySem.F.slot_dict_items dd.typeIs PySem.F.entry_dict_items (PySem.F.args_dict_items_1 _) (meets_dict_items (mixKind X.prog X.w) d lo) ⟨⟨vs, dd⟩, ?_⟩
  have I2 : Inv X pins σ H1 { s1 with heap := s1.heap.push { cls := .type "dict_items", data := .fields #[.ref d] } } := I1.kept (t' := s1.toks) fun b o e => Heap.get?_push_of_some _ e
  have hob2 : (s1.heap.push { cls := .type "dict_items", data := .fields #[.ref d] }).get? d = some ob := Heap.get?_push_of_some _ hob
  refine wpAny_pyIter_items (knd := mixKind X.prog X.w) (kvs := vs) (ep := ep) ⟨_, Heap.get?_push_size _ rfl, rfl, rfl⟩ ⟨ob, es, hob2, hx, hdat, hk, hp, hn⟩ ?_
  have I3 : Inv X pins σ H1 { s1 with heap := (s1.heap.push { cls := .type "dict_items", data := .fields #[.ref d] }).push { cls := .type "dict_itemiterator", data := .fields #[.none, .bool false, .ref d, .int 0 0, .int vs.length 0, .int ep 0, .none, .none] } } :=
    I2.kept (t' := s1.toks) fun b o e => Heap.get?_push_of_some _ e
  obtain ⟨n4, I4⟩ := I3.freeze hd (ob := ob) (Heap.get?_push_of_some _ hob2)
  refine ⟨_, [_], _, Iti d ob kvs, _, rfl, I4, turn_items d _ ob kvs ep ⟨es, hdat⟩, ⟨.none, .none, ?_⟩, fun b hb => ?_, q ob⟩
  · have hl := rel.length
    rw [hl]
    exact Heap.get?_push_size _ rfl
  · have e : b = (s1.heap.push { cls := .type "dict_items", data := .fields #[.ref d] }).objs.size := by simpa using hb
    subst e
    refine I2.fpOk (Nat.le_refl _) ?_
    rw [upd_ne (Nat.ne_of_gt (Heap.lt_size hob2))]
    exact I2.hok.fresh (Nat.le_refl _)
/-- the loop: the dict is frozen in it, and thawed behind it -/
def thawE (d : Addr) (kvs : List (Key × V)) (D : Ends) : Ends where
  nx := fun σ H => ∃ ob, H d = some (.frz ob (.dK kvs)) ∧ D.nx σ (upd H d (.dK kvs))
  rt := fun v H => ∃ ob, H d = some (.frz ob (.dK kvs)) ∧ D.rt v (upd H d (.dK kvs))
  bk := fun σ H => ∃ ob, H d = some (.frz ob (.dK kvs)) ∧ D.bk σ (upd H d (.dK kvs))
  ct := fun σ H => ∃ ob, H d = some (.frz ob (.dK kvs)) ∧ D.ct σ (upd H d (.dK kvs))
def tForI (to : TE) (g : TG) (tb : TS) : TS := fun D σ H => ∃ d kvs, H d = some (.dK kvs) ∧ tFor (iItems to) g tb (thawE d kvs D) σ H
theorem ps_forI {iter : Expr} {body : List Stmt} {to : TE} {g : TG} {tb : TS} {pos : Pos} (hp : PassesOwn (model X.prog X.w) X.A X.env X.xe) (hc : X.calm = true) (hi : PI X (.Tuple elts x1 tpos) iter (iItems to)) (hg : PG X (.Tuple elts x1 tpos) g) (hb : PSs X body tb)
    (hs : ∀ x, foldedSetIterable iter X.env x = pure x := by intro _; rfl) : PS X (.For (.Tuple elts x1 tpos) iter body [] pos) (tForI to g tb) := by
  intro pins s σ H D I h
  obtain ⟨d, kvs, hd, h⟩ := h
  have n4 : ∀ o u, X.H₀ d ≠ some (.frz o u) := fun o u e => by
    have := I.base.frzs d o u e
    rw [hd] at this
    cases this
  refine thn (ps_for hp hc hi hg hb hs pins s σ H _ I h) fun f s' q => ?_
  cases f with
  | next => obtain ⟨σ', H', I', ob, e, q⟩ := q; exact ⟨σ', _, I'.thaw e n4, q⟩
  | brk => obtain ⟨σ', H', I', ob, e, q⟩ := q; exact ⟨σ', _, I'.thaw e n4, q⟩
  | cont => obtain ⟨σ', H', I', ob, e, q⟩ := q; exact ⟨σ', _, I'.thaw e n4, q⟩
  | ret u => obtain ⟨v, σ', H', I', r, ob, e, q⟩ := q; exact ⟨v, σ', _, I'.thaw e n4, r, q⟩
end
theorem for_items {d : Addr} {ob : Obj} {kvs : List (Key × V)} {g : TG} {tb : TS} {D : Ends} {σ : St} {H : Hp} (Pv : Nat → St → Hp → Prop) (h0 : Pv 0 σ H) (hl : ∀ i σ H, i ≤ kvs.length → Pv i σ H → H d = some (.frz ob (.dK kvs)))
    (hs : ∀ i k v σ H t, kvs[i]? = some (k, v) → Pv i σ H → H t = none → g (.ref t) σ (upd H t (.tup [kV k, v])) fun σ2 H2 => tb { D with nx := Pv (i + 1), ct := Pv (i + 1), bk := D.nx } σ2 H2) (hd : ∀ σ H, Pv kvs.length σ H → D.nx σ H) :
    ∃ W : Nat → Nat → St → Hp → Prop, (∃ m, W 0 m σ H) ∧ ∀ i m σ H, W i m σ H →
      ((Iti d ob kvs).stop i H ∧ D.nx σ H) ∨ ((Iti d ob kvs).go i H ∧ ∃ N : St → Hp → Prop, (∀ σ' H', N σ' H' → ∃ m', m' < m ∧ W (i + 1) m' σ' H') ∧ ∀ x H', (Iti d ob kvs).yld i H x H' → g x σ H' fun σ2 H2 => tb { D with nx := N, ct := N, bk := D.nx } σ2 H2) := by
  refine ⟨fun i m σ H => m = kvs.length - i ∧ i ≤ kvs.length ∧ Pv i σ H, ⟨kvs.length, by simp, Nat.zero_le _, h0⟩, ?_⟩
  rintro i m σ H ⟨rfl, hi, p⟩
  have q := hl i σ H hi p
  by_cases hlt : i < kvs.length
  · refine .inr ⟨⟨q, hlt⟩, Pv (i + 1), fun σ' H' p' => ⟨kvs.length - (i + 1), by omega, rfl, hlt, p'⟩, fun x H' y => ?_⟩
    obtain ⟨t, k, v, ht, hkv, rfl, rfl⟩ := y
    exact hs i k v σ H t hkv p ht
  · have e : i = kvs.length := by omega
    subst e
    exact .inl ⟨⟨q, Nat.le_refl _⟩, hd σ H p⟩
/-! ### == and != over data: lists and tuples of these, ints, texts, bools, None -/
mutual
inductive Dat (K : PySem.W.Frag) (H : Hp) : V → PyData → Prop
  | non : Dat K H .non .none
  | bl (b : Bool) : Dat K H (.bl b) (.bool b)
  | int (i : Int) : Dat K H (.int i) (.int i)
  | str (x : Str) : Dat K H (.str x) (.str x)
  | lst {a : Addr} {xs : List V} {ds : List PyData} : SqL K H a xs → Dats K H xs ds → Dat K H (.ref a) (.list ds)
  | tup {a : Addr} {xs : List V} {ds : List PyData} : SqT K H a xs → Dats K H xs ds → Dat K H (.ref a) (.tuple ds)
inductive Dats (K : PySem.W.Frag) (H : Hp) : List V → List PyData → Prop
  | nil : Dats K H [] []
  | cons {x : V} {xs : List V} {d : PyData} {ds : List PyData} : Dat K H x d → Dats K H xs ds → Dats K H (x :: xs) (d :: ds)
end
section
variable {X : Cx} {pins : List (Addr × Obj)} {σ : St} {H : Hp} {s : Shared}
mutual
theorem Dat.reads (I : Inv X pins σ H s) : ∀ {x : V} {d : PyData} {u : Value}, Dat X.K H x d → RelV x u → ∃ as, Reads s.heap u d as
  | _, _, _, .non, r => by cases r; exact ⟨_, .none⟩
  | _, _, _, .bl b, r => by cases r; exact ⟨_, .bool b⟩
  | _, _, _, .int i, r => by obtain ⟨t, rfl⟩ := r; exact ⟨_, .int i t⟩
  | _, _, _, .str x, r => by obtain ⟨t, rfl⟩ := r; exact ⟨_, .str x t⟩
  | _, _, _, .lst hq hd, r => by
    cases r
    obtain ⟨its, rv, ⟨o, n, e, c, _, dd⟩, _⟩ := I.list hq
    obtain ⟨as, ra⟩ := Dats.reads I hd rv
    exact ⟨_, .list e c dd (by simpa using ra)⟩
  | _, _, _, .tup hq hd, r => by
    cases r
    obtain ⟨its, rv, ⟨o, e, c, n, dd⟩, _⟩ := I.tuple hq
    obtain ⟨as, ra⟩ := Dats.reads I hd rv
    exact ⟨_, .tuple e c dd (by simpa using ra)⟩
theorem Dats.reads (I : Inv X pins σ H s) : ∀ {xs : List V} {ds : List PyData} {us : List Value}, Dats X.K H xs ds → Vals xs us → ∃ as, ReadsAll s.heap us ds as
  | _, _, _, .nil, r => by cases r; exact ⟨_, .nil⟩
  | _, _, _, .cons h t, r => by
    cases r with
    | cons r1 r2 =>
      obtain ⟨as, a1⟩ := Dat.reads I h r1
      obtain ⟨bs, b1⟩ := Dats.reads I t r2
      exact ⟨_, .cons a1 b1⟩
end
def rEqD (X : Cx) (neg : Bool) : R2 := fun x y H Q => ∃ d e : PyData, Dat X.K H x d ∧ Dat X.K H y e ∧ d.canLay0 = true ∧ e.canLay0 = true ∧ d.depth ≤ 60 ∧ Q (.bl (if neg then !PyData.eqv d e else PyData.eqv d e)) H
theorem op_eqD (hu : X.A.units + 60 < cLine) : OpR X (compareOp .Eq) (rEqD X false) := by
  intro pins s σ H x y v u Q I rx ry h
  obtain ⟨d, e, hd, he, c1, c2, dp, q⟩ := h
  obtain ⟨as, ra⟩ := hd.reads I rx
  obtain ⟨bs, rb⟩ := he.reads I ry
  exact SeqAt.compareEq_reads ra rb c1 c2 (by omega) ⟨.bl _, H, I, rfl, q⟩
end
end L2

set_option autoImplicit false
set_option maxRecDepth 100000
set_option linter.all false
set_option Elab.async false
namespace L2
open PySem PySem.Spec PyProof.Rows
section
variable {X : Cx}
theorem op_neD (hu : X.A.units + 60 < cLine) : OpR X (compareOp .NotEq) (rEqD X true) := by
  intro pins s σ H x y v u Q I rx ry h
  obtain ⟨d, e, hd, he, c1, c2, dp, q⟩ := h
  obtain ⟨as, ra⟩ := hd.reads I rx
  obtain ⟨bs, rb⟩ := he.reads I ry
  exact SeqAt.compareNe_reads ra rb c1 c2 (by omega) ⟨.bl _, H, I, rfl, q⟩
/-! ### two dicts of the same pairs, their values ints -/
theorem valV_of {kvs : List (Key × V)} (nd : (kvs.map (·.1)).Nodup) {k : Key} {v : V} (h : (k, v) ∈ kvs) : valV kvs k = some v := by
  induction kvs with
  | nil => cases h
  | cons p r ih =>
    rw [List.map_cons, List.nodup_cons] at nd
    rcases List.mem_cons.mp h with e | h
    · subst e
      exact valV_pos rfl
    · rw [valV_neg (fun e => nd.1 (by rw [e]; exact List.mem_map.mpr ⟨_, h, rfl⟩))]
      exact ih nd.2 h
/-! ### dict(d) -/
/-! ### isinstance(x, (T, ..)) -/
theorem ty_kit {pins : List (Addr × Obj)} {σ : St} {H : Hp} {s : Shared} {x : V} {u t : Value} (I : Inv X pins σ H s) (rx : RelV x u) (ty : TyOf X.K H x t) :
    ∃ P : Heap → Prop, PySem.W.KitX X.K u t P ∧ P s.heap ∧ u ≠ .builtin "__main__.__loader__#opaque" := by
  cases ty with
  | non => cases (show u = Value.none from rx); exact ⟨_, PySem.W.kitx_none, True.intro, fun z => nomatch z⟩
  | bl y => cases (show u = Value.bool y from rx); exact ⟨_, PySem.W.kitx_bool, True.intro, fun z => nomatch z⟩
  | int i => obtain ⟨t, q⟩ := (show ∃ t, u = Value.int i t from rx); cases q; exact ⟨_, PySem.W.kitx_int, True.intro, fun z => nomatch z⟩
  | str y => obtain ⟨t, q⟩ := (show ∃ t, u = Value.str y t from rx); cases q; exact ⟨_, PySem.W.kitx_str, True.intro, fun z => nomatch z⟩
  | flt y => obtain ⟨t, q⟩ := (show ∃ t, u = Value.float y t from rx); cases q; exact ⟨_, PySem.W.kitx_float, True.intro, fun z => nomatch z⟩
  | @lst a xs ea =>
    cases (show u = Value.ref a from rx)
    obtain ⟨_, _, n, _, h1⟩ := (show ObjOk X.prog X.w H s.heap a (.lst xs) from I.hok a _ ea)
    exact ⟨_, PySem.W.kitx_list, ⟨_, h1, rfl⟩, fun z => nomatch z⟩
  | @frz a ob xs ea =>
    cases (show u = Value.ref a from rx)
    obtain ⟨_, _, _, n, _, h1⟩ := (show ObjOk X.prog X.w H s.heap a (.frz ob (.lst xs)) from I.hok a _ ea)
    exact ⟨_, PySem.W.kitx_list, ⟨_, h1, rfl⟩, fun z => nomatch z⟩
  | @tup a xs ea =>
    cases (show u = Value.ref a from rx)
    obtain ⟨_, _, _, p⟩ := (show ObjOk X.prog X.w H s.heap a (.tup xs) from I.hok a _ ea)
    obtain ⟨o, h1, h2, _⟩ := p
    exact ⟨_, PySem.W.kitx_tuple, ⟨o, h1, h2⟩, fun z => nomatch z⟩
  | @dK a kvs ea =>
    cases (show u = Value.ref a from rx)
    obtain ⟨_, _, vs, _, p⟩ := (show ObjOk X.prog X.w H s.heap a (.dK kvs) from I.hok a _ ea)
    obtain ⟨o, es, ep, h1, h2, _⟩ := p
    exact ⟨_, PySem.W.kitx_dict, ⟨o, h1, h2.1⟩, fun z => nomatch z⟩
  | @dT a kvs ea =>
    cases (show u = Value.ref a from rx)
    obtain ⟨_, _, xs, _, o, es, ep, h1, h2, _⟩ := (show ObjOk X.prog X.w H s.heap a (.dT kvs) from I.hok a _ ea)
    exact ⟨_, PySem.W.kitx_dict, ⟨o, h1, h2.1⟩, fun z => nomatch z⟩
  | @ins a C dx fs ea cl ha hn htk hm =>
    cases (show u = Value.ref a from rx)
    obtain ⟨mA, O, _⟩ := ins_get I.hok ea
    obtain ⟨od, J, _⟩ := O.look
    exact ⟨_, PySem.W.kitx_own (cl.get _) cl.hd ha hn htk hm, J, fun z => nomatch z⟩
theorem vals_tys : ∀ {cs : List String} {us : List Value}, Vals (cs.map V.ty) us → us = cs.map Value.type
  | [], us, r => by cases r; rfl
  | c :: cs, us, r => by
    cases r with
    | cons r1 r2 =>
      cases r1
      rw [vals_tys r2]
      rfl
theorem call_isinstT : CallR X (.builtin "isinstance") (fun xs H Q => ∃ (x : V) (p : Addr) (t : Value) (cs : List String) (b : Bool), xs = [x, .ref p] ∧ TyOf X.K H x t ∧ H p = some (.tup (cs.map V.ty)) ∧ PySem.W.kitAny X.K t (cs.map Value.type) = some b ∧ Q (.bl b) H) := by
  intro pins s σ H xs us Q I r h
  obtain ⟨x, p, t, cs, b, rfl, ty, hp, e, q⟩ := h
  obtain ⟨u, v, rfl, rx, rv⟩ := vals2 r
  cases rv
  obtain ⟨_, its, r2, o, ho, hc, n, hd⟩ := I.hok p _ hp
  have e0 := vals_tys r2
  subst e0
  obtain ⟨P, Z, hP, hx⟩ := ty_kit I rx ty
  obtain ⟨oc, od, da, sl⟩ := o
  dsimp only at hc hd
  subst hc hd
  exact PySem.W.kia_tup Z I.kIn hP ho e hx fun tk => ⟨.bl b, H, I.tok tk, rfl, q⟩
/-! ### what the built-in types say of one another, whatever the text -/
theorem kit_eq (K : PySem.W.Frag) (n : String) : PySem.W.kitOne K (.type n) (.type n) = some true := by
  unfold PySem.W.kitOne
  rw [if_pos (by simp)]
theorem kit_int_bool (K : PySem.W.Frag) : PySem.W.kitOne K (.type "int") (.type "bool") = some false := by with_unfolding_all rfl
theorem kit_tuple_bool (K : PySem.W.Frag) : PySem.W.kitOne K (.type "tuple") (.type "bool") = some false := by with_unfolding_all rfl
theorem kit_tuple_int (K : PySem.W.Frag) : PySem.W.kitOne K (.type "tuple") (.type "int") = some false := by with_unfolding_all rfl
theorem kit_tuple_str (K : PySem.W.Frag) : PySem.W.kitOne K (.type "tuple") (.type "str") = some false := by with_unfolding_all rfl
theorem kit_tuple_dict (K : PySem.W.Frag) : PySem.W.kitOne K (.type "tuple") (.type "dict") = some false := by with_unfolding_all rfl
theorem kit_tuple_list (K : PySem.W.Frag) : PySem.W.kitOne K (.type "tuple") (.type "list") = some false := by with_unfolding_all rfl
theorem kit_list_bool (K : PySem.W.Frag) : PySem.W.kitOne K (.type "list") (.type "bool") = some false := by with_unfolding_all rfl
theorem kit_list_int (K : PySem.W.Frag) : PySem.W.kitOne K (.type "list") (.type "int") = some false := by with_unfolding_all rfl
theorem kit_list_str (K : PySem.W.Frag) : PySem.W.kitOne K (.type "list") (.type "str") = some false := by with_unfolding_all rfl
theorem kit_list_dict (K : PySem.W.Frag) : PySem.W.kitOne K (.type "list") (.type "dict") = some false := by with_unfolding_all rfl
theorem kit_list_tuple (K : PySem.W.Frag) : PySem.W.kitOne K (.type "list") (.type "tuple") = some false := by with_unfolding_all rfl
theorem kit_any_list (K : PySem.W.Frag) : PySem.W.kitAny K (.type "list") (["list", "tuple"].map Value.type) = some true := by with_unfolding_all rfl
theorem kit_any_tuple (K : PySem.W.Frag) : PySem.W.kitAny K (.type "tuple") (["list", "tuple"].map Value.type) = some true := by with_unfolding_all rfl
end
end L2

set_option autoImplicit false
set_option maxRecDepth 100000
set_option linter.all false
set_option Elab.async false
namespace L2
open PySem PySem.Spec PyProof.Rows
/-! ### comprehensions in short -/
theorem comp_range {lo : Int} {n : Nat} {g : TG} {tif : TT} {te : TE} {p : Addr} {σ : St} {H : Hp} {Q : VK} (Pv : Nat → St → Hp → Prop) (h0 : Pv 0 σ H)
    (hs : ∀ i σ H, i < n → Pv i σ H → g (.int (lo + i)) σ H fun σ3 H3 => tif σ3 H3 fun b H4 => if b = true then te σ3 H4 fun v H5 => ∃ xs, H5 p = some (.lst xs) ∧ xs.length < sizeLine ∧ Pv (i + 1) σ3 (upd H5 p (.lst (xs ++ [v]))) else Pv (i + 1) σ3 H4)
    (hd : ∀ σ H, Pv n σ H → Q (.ref p) H) : compW (Itr lo n) g tif te p σ H Q := by
  refine ⟨fun i m σ H => m = n - i ∧ i ≤ n ∧ Pv i σ H, ⟨n, by simp, Nat.zero_le _, h0⟩, ?_⟩
  rintro i m σ H ⟨rfl, hi, q⟩
  by_cases hlt : i < n
  · refine .inr ⟨hlt, Pv (i + 1), fun σ' H' p' => ⟨n - (i + 1), by omega, rfl, hlt, p'⟩, fun x H' y => ?_⟩
    obtain ⟨e, y⟩ := y
    subst e y
    exact hs i σ _ hlt q
  · have e : i = n := by omega
    subst e
    exact .inl ⟨Nat.le_refl _, hd σ H q⟩
theorem comp_list {K : PySem.W.Frag} {a : Addr} {xs : List V} {g : TG} {tif : TT} {te : TE} {p : Addr} {σ : St} {H : Hp} {Q : VK} (Pv : Nat → St → Hp → Prop) (h0 : Pv 0 σ H) (hl : ∀ i σ H, i ≤ xs.length → Pv i σ H → SqL K H a xs)
    (hs : ∀ i x σ H, xs[i]? = some x → Pv i σ H → g x σ H fun σ3 H3 => tif σ3 H3 fun b H4 => if b = true then te σ3 H4 fun v H5 => ∃ ys, H5 p = some (.lst ys) ∧ ys.length < sizeLine ∧ Pv (i + 1) σ3 (upd H5 p (.lst (ys ++ [v]))) else Pv (i + 1) σ3 H4)
    (hd : ∀ σ H, Pv xs.length σ H → Q (.ref p) H) : compW (Itl K a) g tif te p σ H Q := by
  refine ⟨fun i m σ H => m = xs.length - i ∧ i ≤ xs.length ∧ Pv i σ H, ⟨xs.length, by simp, Nat.zero_le _, h0⟩, ?_⟩
  rintro i m σ H ⟨rfl, hi, q⟩
  have sq := hl i σ H hi q
  by_cases hlt : i < xs.length
  · refine .inr ⟨⟨xs, xs[i], sq, by simp [hlt]⟩, Pv (i + 1), fun σ' H' p' => ⟨xs.length - (i + 1), by omega, rfl, hlt, p'⟩, fun x H' y => ?_⟩
    obtain ⟨e, y⟩ := y
    subst e
    exact hs i x σ _ (y xs sq) q
  · have e : i = xs.length := by omega
    subst e
    exact .inl ⟨⟨xs, sq, Nat.le_refl _⟩, hd σ H q⟩
theorem small_1000 {n : Nat} (h : n ≤ 1000) : n < sizeLine := Nat.lt_of_le_of_lt h (by decide)
/-- a fresh object more: all that was tracked is as it was -/
theorem Same.upd {H : Hp} {p : Addr} {o : HO} (h : H p = none) : Same H (upd H p o) := fun b u e => by
  rw [upd_ne (ne_of_none e h)]
  exact e
theorem Same.tr {H H1 : Hp} {p : Addr} {o : HO} (s : Same H H1) (h : H1 p = none) : Same H (L2.upd H1 p o) := s.trans (Same.upd h)
theorem Same.tup {K : PySem.W.Frag} {H H' : Hp} {a : Addr} {xs : List V} (e : Same H H') (h : SqT K H a xs) : SqT K H' a xs := by
  rcases h with (h | ⟨o, h⟩) | h
  · exact .inl (.inl (e _ _ h))
  · exact .inl (.inr ⟨o, e _ _ h⟩)
  · exact .inr h
end L2

set_option autoImplicit false
set_option maxRecDepth 100000
set_option linter.all false
set_option Elab.async false
namespace L2
open PySem PySem.Spec PyProof.Rows
/-! ### the text of a one with noughts -/
def noughts (k : Nat) : Str := ⟨List.foldl (fun x1 x2 => x1 ++ x2) #[] (List.replicate k (("0" : Str).cps))⟩
section
variable {X : Cx}
theorem op_mul_0 : OpR X (binaryOp .Mult) (fun x y H Q => x = .str "0" ∧ y = .int 90 ∧ Q (.str (noughts 90)) H) := by
  intro pins s σ H x y v u Q I rx ry h
  obtain ⟨rfl, rfl, q⟩ := h
  obtain ⟨t, rfl⟩ := rx
  obtain ⟨t', rfl⟩ := ry
  refine PySem.P.mul_str (by decide) (fun _ _ => by decide) (fun _ _ => by decide) ?_
  exact ⟨by decide +kernel, .str (noughts 90), H, I.tok _, ⟨_, rfl⟩, q⟩
theorem ten90 : PySem.intText? (("1" : Str) ++ noughts 90) = some (10 ^ 90) := by decide +kernel
theorem ten90_len : (("1" : Str) ++ noughts 90).length ≤ 640 := by decide +kernel
theorem ten90_add : ("1" : Str).length + (noughts 90).length ≤ sizeLine := by decide +kernel
/-! ### arguments, without a look at the ones behind -/
section
variable {X : Cx} {es : List Expr} {t : TA} {te : TE}
theorem pa_int {i j p} (h : PA X es t) : PA X (.Constant (.int i) j p :: es) (tCons (tC (.int i)) t) := pa_cons pe_int h (by rfl)
theorem pa_nm {x p} (he : PE X (.Name x p) te) (h : PA X es t) : PA X (.Name x p :: es) (tCons te t) := pa_cons he h (by rfl)
theorem pa_bin {a op b p} (he : PE X (.BinOp a op b p) te) (h : PA X es t) : PA X (.BinOp a op b p :: es) (tCons te t) := pa_cons he h (by rfl)
theorem pa_sub {a b p} (he : PE X (.Subscript a b p) te) (h : PA X es t) : PA X (.Subscript a b p :: es) (tCons te t) := pa_cons he h (by rfl)
theorem pa_call {a b c p} (he : PE X (.Call a b c p) te) (h : PA X es t) : PA X (.Call a b c p :: es) (tCons te t) := pa_cons he h (by rfl)
theorem pa_tup {a b p} (he : PE X (.Tuple a b p) te) (h : PA X es t) : PA X (.Tuple a b p :: es) (tCons te t) := pa_cons he h (by rfl)
end
/-! ### one of a written list -/
theorem pick {vs : List Int} {c : Int} (h0 : 0 ≤ c) (h1 : c < vs.length) : ∃ v, v ∈ vs ∧ atI (vs.map V.int) c = some (V.int v) := by
  obtain ⟨j, rfl⟩ := Int.eq_ofNat_of_zero_le h0
  have hj : j < vs.length := by omega
  exact ⟨vs[j], List.getElem_mem hj, atI_nat (by rw [List.getElem?_map]; simp [hj])⟩
theorem pick_mod {vs : List Int} {c m : Int} (h : m = vs.length) (h0 : 0 < m) : ∃ v, v ∈ vs ∧ atI (vs.map V.int) (c % m) = some (V.int v) :=
  pick (Int.emod_nonneg _ (by omega)) (by have := Int.emod_lt_of_pos c h0; omega)
end
end L2

set_option autoImplicit false
set_option maxRecDepth 100000
set_option linter.all false
set_option Elab.async false
/-! tuples of ints, as long as one another: t > u, t >= u; max of a list of such -/
namespace HG
open PySem PyProof.Rows
open PySem.SeqAt PySem.MeetsSeq PySem.MeetsSeq2 PySem.MeetsSeq3
open PySem.AutoSeq1 (wpAny_loadPart')
theorem lexB_cons (x y : Int) (xs ys : List Int) : TS.lexB (x :: xs) (y :: ys) = if x = y then TS.lexB xs ys else decide (x < y) := rfl
section
variable {prog : Program} {w : World} {A : Around} {E : Value → Shared → Prop} {s : Shared}
end
end HG
namespace L2
open PySem PySem.Spec PyProof.Rows
section
variable {X : Cx}
end
end L2

set_option autoImplicit false
set_option maxRecDepth 100000
set_option linter.all false
set_option Elab.async false
/-! max of a list whose items are compared by what the heap holds of them -/
namespace HG
open PySem PyProof.Rows
section
variable {prog : Program} {w : World} {A : Around} {R : Result → Shared → Prop} {I S : Addr} {fp wr : List Addr} {n : Nat} {P : Nat → Value → Prop} {St : Nat → Heap → Prop} {G : Heap → Prop} {bt : Nat → Nat → Bool}
/-- all but the walk's own and S is kept -/
def Kp (wr : List Addr) (S : Addr) (h h' : Heap) : Prop := ∀ b o, b ∉ wr → b ≠ S → h.get? b = some o → h'.get? b = some o
theorem Kp.tr {h1 h2 h3 : Heap} (a : Kp wr S h1 h2) (b : Kp wr S h2 h3) : Kp wr S h1 h3 := fun c o x y e => b c o x y (a c o x y e)
end
section
variable {prog : Program} {w : World} {A : Around} {E : Value → Shared → Prop} {s : Shared}
end
end HG

set_option autoImplicit false
set_option maxRecDepth 100000
set_option linter.all false
set_option Elab.async false
namespace L2
open PySem PySem.Spec PyProof.Rows
section
variable {X : Cx}
/-! ### max of a list of tuples of ints, all as long as one another -/
/-! ### [dict, list of ints] != [dict, list of ints], the same -/
end
end L2

set_option autoImplicit false
set_option maxRecDepth 100000
set_option linter.all false
set_option Elab.async false
/-! dict(l), l a list of pairs -/
namespace HG
open PySem PyProof.Rows
theorem list_no_keys : typeLookup (.type "list") "keys" = pure none := am_miss_of_fast (by decide +kernel)
theorem plain_dul : plainId "dict.update.loop" = true := by decide +kernel
theorem entry_dul : entryFor table "dict.update.loop" = some Builtin.«dict.update.loop» := entryFor_of_tree (by kernel_rfl)
theorem attr_keys {prog : Program} {w : World} {A : Around} {E : Value → Shared → Prop} {s : Shared} {a : Addr} {o : Obj} {xs : Array Value} {k : Nat} {Q : Option Value → Shared → Prop}
    (hx : s.heap.get? a = some o) (hc : o.cls = .type "list") (hdat : o.data = .seq xs k) (hd : o.dict = none) (hA : A.handled = none)
    (h : ∀ h' tk, (∀ b ob, s.heap.get? b = some ob → h'.get? b = some ob) → Q none { s with heap := h', toks := tk }) :
    wpAny (model prog w) A (getAttr? (.ref a) "keys") Q E s := by
  obtain ⟨c, dct, dat, sl⟩ := o
  simp only at hc hdat hd
  subst hc hdat hd
  obtain ⟨hp, g, d, tk, os⟩ := s
  have hT : ∀ tk', (⟨hp, g, d, tk', os⟩ : Shared).TypeIs (.ref a) "list" := fun _ => ⟨_, hx, rfl⟩
  have f1 := sub_AttributeError
  have f3 := F.slot_list_getattribute.lookup
  have f4 := F.slot_list_getattribute.bind (.ref a)
  have f5 := am_list_getattr_none
  unfold getAttr? getAttrBy? getAttrBy
  repeat (any_goals (first | assumption | exact hT _ | ((with_reducible show wpAny _ _ (call (Value.builtin "list.__getattribute__") _ _) _ _ _); refine call_meets F.slot_list_getattribute (hT _) am_entry_list_getattribute (F.args_list_getattribute_2 _ _) (meets_getattribute_miss_list a xs k sl "keys" _ list_no_keys (by decide)) ⟨hx, hA, fun h' tk' e hx' => ?_⟩) | wp_step))
  obtain ⟨t', u', he⟩ := hx'.there
  show wpAny _ _ (getattributeRaised _ _ _ _ _ _ _) _ _ _
  unfold getattributeRaised
  repeat (any_goals (first | assumption | wp_step))
  exact h _ _ hx'.keeps
section
variable {prog : Program} {w : World} {A : Around} {R : Result → Shared → Prop} {I D : Addr} {fp wr : List Addr} {n : Nat} {P : Nat → Value → Prop} {St : Nat → Heap → Prop} {κ : Type} [DecidableEq κ] {knd : KeyKind prog w κ} {ts : List Addr} {ps : List (κ × Value)}
/-- pairs of a key and a value, each a tuple -/
def Prs (knd : KeyKind prog w κ) (ts : List Addr) (ps : List (κ × Value)) (h : Heap) : Prop := ∀ (i : Nat) b p, ts[i]? = some b → ps[i]? = some p → ∃ key, knd.is p.1 key = true ∧ IsTup h b #[key, p.2]
theorem upd_loop (W : Walks prog w A.in1 I fp wr n P St) (hD : D ∉ fp) (hP : ∀ i v, P i v → ∃ b, ts[i]? = some b ∧ v = .ref b) (hn : ps.length = n) (hw : ∀ b ∈ ts, b ∉ wr ∧ b ≠ D) :
    ∀ (k j : Nat) (s : Shared) (kvs : List (κ × Value)) (i : Int) (t : Tok), n = j + k → St j s.heap → Prs knd ts ps s.heap → s.heap.DictOf knd D kvs → kvs.length + k ≤ sizeLine →
      (∀ h' tk, h'.DictOf knd D ((ps.drop j).foldl (fun a p => stored a p.1 p.2) kvs) → Kp wr D s.heap h' → R (.ok (.ret .none)) { s with heap := h', toks := tk }) →
      codeAny (model prog w) A (.builtin "dict.update.loop" ⟨[.ref D, .ref I, .int i t, .none], []⟩) R s := by
  have nw : D ∉ wr := fun m => hD (W.sub _ m)
  intro k
  induction k with
  | zero =>
    intro j s kvs i t en st g hm hsz r
    refine codeAny_builtin entry_dul ?_
    rw [Around.under_plainId plain_dul _]
    show wpAny (model prog w) A.in1 (pyNext (.ref I) >>= _) _ _ s
    refine wpAny_bind (W.done s _ _ (en ▸ st) fun h' tk kp => ?_)
    show wpAny _ _ (Builtin.Dict.addKeywords D [] >>= _) _ _ _
    refine wpAny_bind (wpAny_pure (wpAny_pure ?_))
    refine r h' tk ?_ fun b o bw _ e => kp b o bw e
    rw [List.drop_eq_nil_of_le (by omega)]
    obtain ⟨o, es, ep, e1, e2⟩ := hm
    exact ⟨o, es, ep, kp D _ nw e1, e2⟩
  | succ k ih =>
    intro j s kvs i t en st g hm hsz r
    refine codeAny_builtin entry_dul ?_
    rw [Around.under_plainId plain_dul _]
    show wpAny (model prog w) A.in1 (pyNext (.ref I) >>= _) _ _ s
    refine wpAny_bind (W.item j s _ _ (by omega) st fun v h' tk pv st' kp => ?_)
    obtain ⟨b, hb, rfl⟩ := hP j v pv
    have hj : j < ps.length := by omega
    obtain ⟨key, hk, hT⟩ := g j b ps[j] hb (List.getElem?_eq_getElem hj)
    obtain ⟨o, eo, c, m, d⟩ := hT
    have hbw := hw b (List.mem_of_getElem? hb)
    have eo' := kp b _ hbw.1 eo
    have hm' : h'.DictOf knd D kvs := by
      obtain ⟨o, es, ep, e1, e2⟩ := hm
      exact ⟨o, es, ep, kp D _ nw e1, e2⟩
    refine wpAny_bind (wpAny_holding (wpAny_bind (wpAny_tryCatch ?_)))
    show wpAny _ _ (Builtin.Dict.pairItems (.ref b)) _ _ _
    unfold Builtin.Dict.pairItems
    refine wpAny_bind (wpAny_typeOf (T := "tuple") ⟨o, eo', c⟩ ?_)
    rw [if_pos (by decide)]
    refine wpAny_bind (wpAny_seqItems eo' d (wpAny_pure ?_))
    show wpAny _ _ (holding [key, ps[j].2] (dictSet D key ps[j].2)) _ _ _
    refine wpAny_holding (wpAny_dictSet_pairs (hsz := by omega) hk hm' fun h2 hm2 hs2 => ?_)
    have k1 : Kp wr D s.heap h' := fun b o bw _ e => kp b o bw e
    have k2 : Kp wr D h' h2 := fun b o _ bD e => (hs2.2 b bD).trans e
    refine wpAny_pure ⟨plainId_quiet plain_dul _, ih (j + 1) _ _ _ _ (by omega) (W.frame _ _ _ st' fun b bf o q => ?_) ?_ hm2 ?_ fun h3 tk3 hd3 kp3 => ?_⟩
    · exact (hs2.2 b (fun z : b = D => hD (z ▸ bf))).trans q
    · intro i' b' p' hb' hp'
      obtain ⟨key', hk', o', eo2, c'⟩ := g i' b' p' hb' hp'
      have hw' := hw b' (List.mem_of_getElem? hb')
      exact ⟨key', hk', o', k2 _ _ hw'.1 hw'.2 (k1 _ _ hw'.1 hw'.2 eo2), c'⟩
    · have : (stored kvs ps[j].1 ps[j].2).length ≤ kvs.length + 1 := by
        unfold stored
        split
        · simp
        · simp
      omega
    · refine r h3 tk3 ?_ ((k1.tr k2).tr kp3)
      rw [List.drop_eq_getElem_cons hj, List.foldl_cons]
      exact hd3
theorem call_dict_pairs {E : Value → Shared → Prop} {s : Shared} {l : Addr} {Q : Value → Shared → Prop} (hA : A.handled = none) (hL : PlainL s.heap l (ts.map Value.ref).toArray) (hn : ps.length = ts.length) (hs : ts.length ≤ sizeLine) (hp : Prs knd ts ps s.heap)
    (h : ∀ h' tk, h'.DictOf knd s.heap.objs.size (ps.foldl (fun a p => stored a p.1 p.2) []) → (∀ b o, s.heap.get? b = some o → h'.get? b = some o) → Q (.ref s.heap.objs.size) { s with heap := h', toks := tk }) :
    wpAny (model prog w) A (call (.type "dict") [.ref l]) Q E s := by
  refine callType_codes (Q₁ := fun obj s₁ => obj = .ref s.heap.objs.size ∧ s₁ = { s with heap := s.heap.push { cls := .type "dict", data := .dict #[] } }) F.kt_called_dict (F.kt_typeCall_dict_1 _) F.entry_dict_init (kt_code_dict_new _ ⟨rfl, rfl⟩) ?_
  rintro obj s₁ ⟨rfl, rfl⟩
  have hnew : (s.heap.push { cls := .type "dict", data := .dict #[] }).DictOf knd s.heap.objs.size [] := Heap.DictOf.new s.heap
  refine ⟨hnew.typeIs, F.args_dict_init_2 _ _, ?_⟩
  unfold Builtin.«dict.__init__»
  refine wpAny_bind ?_
  unfold Builtin.Dict.selfAndRest
  refine wpAny_bind (wpAny_notOrdered_dict hnew.typeIs ?_)
  show wpAny _ _ (pure (s.heap.objs.size, [Value.ref l])) _ _ _
  refine wpAny_pure ?_
  show wpAny _ _ (Builtin.Dict.updateFrom "dict.__init__" s.heap.objs.size (.ref l) [] .none) _ _ _
  unfold Builtin.Dict.updateFrom
  obtain ⟨o, n, eo, ec, ed, edat⟩ := id hL
  have hlt : l < s.heap.objs.size := Heap.lt_size eo
  have eo1 : (s.heap.push { cls := .type "dict", data := .dict #[] }).get? l = some o := Heap.get?_push_of_some _ eo
  have hb : ∀ b ∈ ts, b < s.heap.objs.size := fun b hb => by
    obtain ⟨i, hi, e⟩ := List.getElem_of_mem hb
    obtain ⟨_, _, o', e1, _⟩ := hp i b ps[i] (by rw [List.getElem?_eq_getElem hi, e]) (List.getElem?_eq_getElem (by omega))
    exact Heap.lt_size e1
  refine wpAny_bind (wpAny_typeOf (T := "list") ⟨o, eo1, ec⟩ ?_)
  rw [if_pos (by decide)]
  refine wpAny_bind (attr_keys (s := { s with heap := s.heap.push { cls := .type "dict", data := .dict #[] } }) eo1 ec edat ed hA fun h1 tk1 kp1 => ?_)
  rw [if_pos (show (none : Option Value).isNone = true from rfl)]
  have eo2 := kp1 _ _ eo1
  have hnew1 : h1.DictOf knd s.heap.objs.size [] := by
    obtain ⟨o, es, ep, e1, e2⟩ := hnew
    exact ⟨o, es, ep, kp1 _ _ e1, e2⟩
  have hlD : s.heap.objs.size < h1.objs.size := by
    obtain ⟨o, es, ep, e1, e2⟩ := hnew1
    exact Heap.lt_size e1
  have L1 : h1.IsList l (ts.map Value.ref).toArray := ⟨o, eo2, ec, n, edat⟩
  refine wpAny_bind (wpAny_rule ?_)
  refine wpAny_bind (wpAny_pyIter_list L1 ?_)
  refine wpAny_pure ⟨plainId_quiet plain_dul _, ?_⟩
  have W := Walks.list (prog := prog) (w := w) (A := A.in1.in1) hA h1.objs.size l (Nat.ne_of_lt (Heap.lt_size eo2)) (ts.map Value.ref).toArray
  rw [show (ts.map Value.ref).toArray.size = ts.length by simp] at W
  refine upd_loop (A := A.in1) (I := h1.objs.size) (n := ts.length) (knd := knd) (ts := ts) (ps := ps) W ?_ ?_ hn ?_ ts.length 0 _ [] _ _ (by omega) ⟨⟨_, Heap.get?_push_size _ rfl, rfl, rfl⟩, L1.push _⟩ ?_ ?_ (by simpa using hs) fun h' tk hd' kp' => ?_
  · intro z
    rcases List.mem_cons.mp z with z | z
    · exact Nat.ne_of_lt hlD z
    · exact Nat.ne_of_gt hlt (List.mem_singleton.mp z)
  · intro i v hv
    simp at hv
    obtain ⟨b, e1, e2⟩ := hv
    exact ⟨b, e1, e2.symm⟩
  · intro b hbt
    refine ⟨fun z => ?_, Nat.ne_of_lt (hb b hbt)⟩
    rw [List.mem_singleton.mp z] at hbt
    exact Nat.lt_irrefl _ (Nat.lt_trans (hb _ hbt) hlD)
  · intro i b p hi hpi
    obtain ⟨key, hk, o', e1, e2⟩ := hp i b p hi hpi
    exact ⟨key, hk, o', Heap.get?_push_of_some _ (kp1 _ _ (Heap.get?_push_of_some _ e1)), e2⟩
  · obtain ⟨o, es, ep, e1, e2⟩ := hnew1
    exact ⟨o, es, ep, Heap.get?_push_of_some _ e1, e2⟩
  · refine ⟨rfl, h h' tk hd' fun b o e => ?_⟩
    refine kp' b o (fun z => ?_) (Nat.ne_of_lt (Heap.lt_size e)) (Heap.get?_push_of_some _ (kp1 _ _ (Heap.get?_push_of_some _ e)))
    have := Heap.lt_size e
    rw [List.mem_singleton.mp z] at this
    exact Nat.lt_irrefl _ (Nat.lt_trans this hlD)
end
end HG
namespace L2
open PySem PySem.Spec PyProof.Rows
section
variable {X : Cx}
theorem pairs_vals {pins : List (Addr × Obj)} {σ : St} {H : Hp} {s : Shared} (I : Inv X pins σ H s) : ∀ {bs : List Addr} {kvs : List (Key × V)}, Paired (fun (b : Addr) (p : Key × V) => H b = some (.tup [kV p.1, p.2])) bs kvs →
    ∃ ps : List (Key × Value), KV kvs ps ∧ ps.length = bs.length ∧ HG.Prs (mixKind X.prog X.w) bs ps s.heap
  | _, _, .nil => ⟨[], .nil, rfl, fun i b p h => by simp at h⟩
  | _, _, @Paired.cons _ _ _ b kv bs kvs h t => by
    obtain ⟨ps, h1, h2, h3⟩ := pairs_vals I t
    obtain ⟨_, its, r, tp⟩ := (show ObjOk X.prog X.w H s.heap b (.tup [kV kv.1, kv.2]) from I.hok b _ h)
    obtain ⟨u, v, rfl, ru, rv⟩ := vals2 r
    refine ⟨(kv.1, v) :: ps, .cons ⟨rfl, rv⟩ h1, by rw [List.length_cons, List.length_cons, h2], fun i b' p' hb hp => ?_⟩
    cases i with
    | zero =>
      simp at hb hp
      subst hb hp
      exact ⟨u, kV_is ru, tp⟩
    | succ j => exact h3 j b' p' (by simpa using hb) (by simpa using hp)
theorem fold_put : ∀ (l acc : List (Key × V)), ((acc ++ l).map (·.1)).Nodup → l.foldl (fun a p => putK a p.1 p.2) acc = acc ++ l
  | [], acc, _ => by simp
  | p :: l, acc, h => by
    have h' : (((acc ++ [p]) ++ l).map (·.1)).Nodup := by rw [List.append_assoc]; exact h
    rw [List.foldl_cons, putK_new, fold_put l _ h', List.append_assoc]
    · rfl
    · cases e : valV acc p.1 with
      | none => rfl
      | some v =>
        exfalso
        have h1 := valV_in e
        rw [List.map_append, List.nodup_append] at h
        exact h.2.2 _ h1 _ (by simp) rfl
theorem kv_fold : ∀ {l acc : List (Key × V)} {m bcc : List (Key × Value)}, KV l m → KV acc bcc → KV (l.foldl (fun a p => putK a p.1 p.2) acc) (m.foldl (fun a p => stored a p.1 p.2) bcc) := by
  intro l acc m bcc h
  unfold KV at h
  induction h generalizing acc bcc with
  | nil => intro h; exact h
  | @cons p q l1 l2 r t ih =>
    intro h
    rw [List.foldl_cons, List.foldl_cons]
    obtain ⟨e, rv⟩ := r
    rw [← e]
    exact ih (h.put p.1 rv)
/-- dict(l) of a list of pairs, each key once -/
theorem call_dictP (hcalm : X.calm = true) : CallR X (.type "dict") (fun xs H Q => ∃ (a : Addr) (bs : List Addr) (kvs : List (Key × V)), xs = [.ref a] ∧ SqL X.K H a (bs.map V.ref) ∧ Paired (fun (b : Addr) (p : Key × V) => H b = some (.tup [kV p.1, p.2])) bs kvs ∧ (kvs.map (·.1)).Nodup ∧
    ∀ d, H d = none → Q (.ref d) (upd H d (.dK kvs))) := by
  intro pins s σ H xs us Q I r h
  obtain ⟨a, bs, kvs, rfl, hq, hp, nd, q⟩ := h
  obtain ⟨u, rfl, ru⟩ := vals1 r
  cases ru
  obtain ⟨its, rv, p, hz⟩ := I.list hq
  have e0 := vals_refs rv
  subst e0
  obtain ⟨ps, kv, hl, prs⟩ := pairs_vals I hp
  rw [List.length_map] at hz
  refine HG.call_dict_pairs (I.ok.hd hcalm) p hl hz prs fun h' tk hd kp => ?_
  have kv2 := kv_fold kv (acc := []) (bcc := []) .nil
  rw [fold_put kvs [] (by simpa using nd), List.nil_append] at kv2
  refine ⟨.ref s.heap.objs.size, _, I.laid (a := s.heap.objs.size) (o := .dK kvs) (t' := tk) kp (Nat.le_refl _) (dk_new ?_ (beq_eq_false_iff_ne.mpr (Ne.symm (Nat.ne_of_lt I.big))) kv2 hd), rfl, q _ I.fresh⟩
  rw [kv.length, hl]
  exact hz
end
end L2

set_option autoImplicit false
set_option maxRecDepth 100000
set_option linter.all false
set_option Elab.async false
/-! list(reversed(l)) -/
namespace HG
open PySem PyProof.Rows PySem.W
section
variable {prog : Program} {w : World} {A : Around} {E : Value → Shared → Prop} {s : Shared} {r l S : Addr} {items : Array Value}
end
end HG
namespace L2
open PySem PySem.Spec PyProof.Rows
section
variable {X : Cx}
end
end L2

set_option autoImplicit false
set_option maxRecDepth 100000
set_option linter.all false
set_option Elab.async false
namespace L2
open PySem PySem.Spec PyProof.Rows
section
variable {X : Cx}
/-! ### [dict, data, data] != [dict, data, data], the same -/
end
end L2

set_option autoImplicit false
set_option maxRecDepth 100000
set_option linter.all false
set_option Elab.async false
namespace HG
open PySem PyProof.Rows
open PySem.SeqAt PySem.MeetsSeq PySem.MeetsSeq2 PySem.MeetsSeq3
open PySem.AutoSeq1 (wpAny_loadPart')
section
variable {prog : Program} {w : World} {A : Around} {E : Value → Shared → Prop} {s : Shared}
end
end HG
namespace L2
open PySem PySem.Spec PyProof.Rows
section
variable {X : Cx}
end
end L2

set_option autoImplicit false
set_option maxRecDepth 100000
set_option linter.all false
set_option Elab.async false
/-! sorted(d.items()), d a dict of ints by ints -/
namespace HG
open PySem PyProof.Rows PySem.W TS
theorem sh_at {h : Heap} {a : Addr} {vs : List Value} {n : Nat} (ho : h.get? a = some (seqObj "list" vs.toArray n)) (out : Array Value) : ∃ e, (sortedHeap h a vs out).get? a = some (seqObj "list" out e) := by
  obtain ⟨e1, ho1⟩ : ∃ e1, (h.update a (Obj.mapSeq fun _ => #[])).get? a = some (seqObj "list" #[] e1) := ⟨_, get?_update_seq ho (fun _ => #[])⟩
  exact ⟨_, get?_update_seq (Heap.get?_push_of_some _ (Heap.get?_push_of_some _ ho1)) (fun _ => out)⟩
theorem sh_old {h : Heap} {a b : Addr} {vs : List Value} {o : Obj} (out : Array Value) (hb : b ≠ a) (e : h.get? b = some o) : (sortedHeap h a vs out).get? b = some o := by
  unfold sortedHeap
  rw [Heap.get?_update_other _ _ (Ne.symm hb)]
  refine Heap.get?_push_of_some _ (Heap.get?_push_of_some _ ?_)
  rw [Heap.get?_update_other _ _ (Ne.symm hb)]
  exact e
section
variable {prog : Program} {w : World} {A : Around} {E : Value → Shared → Prop} {s : Shared} {K : Type} [DecidableEq K] {knd : KeyKind prog w K} {r d : Addr} {kvs : List (K × Value)} {ep : Nat}
theorem sorted_items {Q : Value → Shared → Prop} (hh : A.handled = none) (hv : s.heap.IsItemsView r d) (hm : s.heap.DictAt knd d kvs ep) (hn : kvs.length ≤ sizeLine) (h64 : kvs.length < 64) (hr : s.heap.objs.size = r + 1) (hi : ∀ (j : Nat) k x, kvs[j]? = some (k, x) → (∀ key, knd.is k key = true → ∃ i t, key = .int i t) ∧ ∃ i t, x = .int i t)
    (h : ∀ (h' : Heap) (tk : Nat) (as : List Addr) (out : Array Value) (l : Addr) (e : Nat), (∀ b o, s.heap.get? b = some o → h'.get? b = some o) → as.length = kvs.length → KdxG knd kvs s.heap.objs.size h' as → s.heap.objs.size ≤ l → l ∉ as → h'.get? l = some (seqObj "list" out e) →
      out.toList.Perm (as.map Value.ref) → (out.toList.Pairwise fun x y => lexO.kle (tupOf h' x) (tupOf h' y)) → Q (.ref l) { s with heap := h', toks := tk }) :
    wpAny (model prog w) A (call (.builtin "sorted") [.ref r]) Q E s := by
  refine Calls.call_function_entry kind_sorted plain_sorted entry_sorted (args_sorted1 _) ?_
  unfold Builtin.«sorted»
  refine wpAny_bind (m := checkCount "sorted" 1 1 _) (wpAny_pure ?_)
  refine wpAny_bind (kdx_collect (A := A.in1) (knd := knd) (kvs := kvs) (ep := ep) hh hv hm hn fun h1 tk as hk hl hG => ?_)
  have hz : (as.map Value.ref).length ≤ sizeLine := by rw [List.length_map, hl]; exact hn
  refine wpAny_bind (wpAny_newList ?_ hz)
  have hoL : (h1.push (seqObj "list" (as.map Value.ref).toArray 0)).get? h1.objs.size = some (seqObj "list" (as.map Value.ref).toArray 0) := Heap.get?_push_size _ rfl
  have hTI : ∀ v ∈ as.map Value.ref, IsTI h1 v := fun v hv => by
    obtain ⟨a, ha, rfl⟩ := List.mem_map.mp hv
    obtain ⟨j, hj⟩ := List.mem_iff_getElem?.mp ha
    obtain ⟨key, k, x, h2, h3, h4⟩ := hG.pairs j a hj
    obtain ⟨g1, i2, t2, rfl⟩ := hi j k x h2
    obtain ⟨i1, t1, rfl⟩ := g1 key h3
    exact ⟨a, _, [i1, i2], rfl, ⟨_, h4, rfl, 0, rfl⟩, .cons _ _ (.cons _ _ .nil), fun z => by cases z⟩
  have grown : ∀ b o, h1.get? b = some o → b ≠ h1.objs.size ∧ (h1.push (seqObj "list" (as.map Value.ref).toArray 0)).get? b = some o := fun b o e => ⟨Nat.ne_of_lt (Heap.lt_size e), Heap.get?_push_of_some _ e⟩
  show wpAny _ _ _ _ _ { s with heap := h1.push (seqObj "list" (as.map Value.ref).toArray 0), toks := tk }
  refine wpAny_bind (wpAny_holding (wpAny_call_entry slot_list_sort ⟨_, hoL, rfl⟩ entry_list_sort (list_sort_gen (O := lexO) (V := IsTI h1) (k0 := tuples' true) (kof := tupOf h1) hoL hz (by rw [List.length_map, hl]; exact h64) hTI
    (fun h2 s' Q g q => kind_tups h2 (fun v hm => ?_) q) (fun s' g => cmp_tups fun b o e => g b o (grown b o e).1 (grown b o e).2) fun out a1 a2 => ⟨_, rfl, ?_⟩) (args_list_sort _)))
  · obtain ⟨a, xs, ns, e, ht, r⟩ := hTI v hm
    exact ⟨a, xs, ns, e, tup_grown (fun b o e => g b o (grown b o e).1 (grown b o e).2) ht, r⟩
  · obtain ⟨e, he⟩ := sh_at hoL out
    have kk : ∀ b o, h1.get? b = some o → (sortedHeap (h1.push (seqObj "list" (as.map Value.ref).toArray 0)) h1.objs.size (as.map Value.ref) out).get? b = some o := fun b o q => sh_old out (grown b o q).1 (grown b o q).2
    have hsz : s.heap.objs.size ≤ h1.objs.size := by
      obtain ⟨o, e, _⟩ := hv
      rw [hr]
      exact Heap.lt_size (hk _ _ e)
    refine wpAny_pure ⟨_, rfl, h _ _ as out h1.objs.size e (fun b o q => kk b o (hk b o q)) hl ⟨hG.rise, hG.above, fun j a hj => ?_⟩ hsz (fun z => Nat.lt_irrefl _ (hG.there z)) he a1 ?_⟩
    · obtain ⟨key, k, x, h2, h3, h4⟩ := hG.pairs j a hj
      exact ⟨key, k, x, h2, h3, kk _ _ h4⟩
    · refine List.Pairwise.imp_of_mem ?_ a2
      intro x y hx hy hxy
      have same : ∀ v ∈ out.toList, tupOf (sortedHeap (h1.push (seqObj "list" (as.map Value.ref).toArray 0)) h1.objs.size (as.map Value.ref) out) v = tupOf h1 v := fun v hv => by
        obtain ⟨a, xs, ns, rfl, ht, hI, _⟩ := hTI v (a1.mem_iff.mp hv)
        rw [tupOf_at ht hI, tupOf_at (tup_grown kk ht) hI]
      rw [same x hx, same y hy]
      exact hxy
end
end HG
namespace L2
open PySem PySem.Spec PyProof.Rows
theorem RKpaired_at {α β : Type} {F : α → β → Prop} {l : List α} {m : List β} {i : Nat} {b : α} (t : Paired F l m) (h : l[i]? = some b) : ∃ r, m[i]? = some r ∧ F b r := by
  induction t generalizing i with
  | nil => simp at h
  | @cons x y l1 l2 r _ ih =>
    cases i with
    | zero =>
      simp at h
      subst h
      exact ⟨y, rfl, r⟩
    | succ j =>
      obtain ⟨d, h1, h2⟩ := ih (i := j) (by simpa using h)
      exact ⟨d, by simpa using h1, h2⟩
section
variable {X : Cx} {pins : List (Addr × Obj)} {σ : St} {H H' : Hp} {s : Shared} {h' : Heap}
/-- several new objects laid and tracked -/
theorem Inv.grow {t' : Nat} (I : Inv X pins σ H s) (ext : ∀ b o, H b = some o → H' b = some o) (old : ∀ b, b < s.heap.objs.size → H' b = H b) (k : ∀ b u, s.heap.get? b = some u → h'.get? b = some u)
    (new : ∀ a o, H' a = some o → s.heap.objs.size ≤ a → ObjOk X.prog X.w H' h' a o) : Inv X pins σ H' { s with heap := h', toks := t' } := by
  refine I.un ⟨fun b u q _ _ _ => k b u q, fun b u q _ _ _ => ⟨u.slots, k b u q⟩, fun b u q n _ => by rw [old b (Heap.lt_size q)]; exact n, fun b u q _ => ⟨u, k b u q⟩, fun b xs q => ext b _ q, fun b o u q => ext b _ q, fun b ps q => ⟨#[], by rw [ext b _ q]; simp⟩⟩ (fun a o e => ?_)
  rcases Nat.lt_or_ge a s.heap.objs.size with z | z
  · have e' : H a = some o := by rw [← old a z]; exact e
    exact (I.hok a o e').stay (fun b u _ q => k b u q) (fun b q => ext b _ q) fun b xs q => ext b _ q
  · exact new a o e z
def intsD (kvs : List (Int × Int)) : List (Key × V) := kvs.map fun p => ((Sum.inl p.1 : Key), V.int p.2)
/-- sorted(o.items()) -/
def tSortI (to : TE) : TE := fun σ H Q => to σ H fun x H1 => ∃ (d : Addr) (kvs : List (Int × Int)), x = .ref d ∧ H1 d = some (.dK (intsD kvs)) ∧ kvs.length < 64 ∧
  ∀ (l : Addr) (bs : List Addr) (f : Addr → List Int) (H2 : Hp), (∀ b o, H1 b = some o → H2 b = some o) → H1 l = none → H2 l = some (.lst (bs.map V.ref)) → (∀ b ∈ bs, H2 b = some (.tup ((f b).map V.int))) → (bs.map f).Perm (kvs.map fun p => [p.1, p.2]) → (bs.map f).Pairwise lexLe → Q (.ref l) H2
theorem pe_sortItems {o : Expr} {to : TE} {p pos apos cpos : Pos} (hcalm : X.calm = true) (hg : Gl X "sorted") (hm : X.mg "sorted" = none) (ho : PE X o to)
    (hbase : attributeBase o "items" X.env (eval o X.env) = eval o X.env := by rfl) (hline : (apos.endLine == cpos.line) = true := by rfl)
    (s1 : starEach [.Call (.Attribute o "items" apos) [] [] cpos] X.env = [(false, eval (.Call (.Attribute o "items" apos) [] [] cpos) X.env)] := by rfl) :
    PE X (.Call (.Name "sorted" p) [.Call (.Attribute o "items" apos) [] [] cpos] [] pos) (tSortI to) := by
  intro pins s σ H Q I h
  refine wpAny_Call_Name_kw (ld_blt I hg hm (show bootBuiltins "sorted" = some (.builtin "sorted") by rfl) ?_ (by decide) (by decide))
  refine PyProof.Rows.callWith_builtin1 (rest := []) ?_ (by rw [s1]; rfl) rfl
  rw [s1]
  show wpAny _ _ (spliced ((false, eval (.Call (.Attribute o "items" apos) [] [] cpos) X.env) :: [])) _ _ s
  refine Calls.spliced_cons ?_
  refine wpAny_Call_method0_late hbase hline (thn (ho pins s σ H _ I h) fun v s1 ⟨x, H1, I1, r1, d, kvs, ex, hd, h64, q⟩ => ?_)
  subst ex
  cases r1
  obtain ⟨hz, lo, vs, rel, dd⟩ := dk_of I1.hok hd
  obtain ⟨ob, es, ep, hob, hx, hdat, hk, hp, hn⟩ := id dd
  refine ⟨"dict", "dict.items", PySem.F.plainAttrs_dict, PySem.F.slot_dict_items, PySem.F.type_dict_items, dd.typeIs, fun a e => by cases e; exact ⟨ob, hob, hx.2.1⟩, Calls.callWith_builtin rfl (PySem.evalArgs_none ?_)⟩
  refine call_meetsIn PySem.F.slot_dict_items dd.typeIs PySem.F.entry_dict_items (PySem.F.args_dict_items_1 _) (meets_dict_items (mixKind X.prog X.w) d lo) ⟨⟨vs, dd⟩, ?_⟩
  refine Calls.spliced_nil ?_
  have hob2 : (s1.heap.push { cls := .type "dict_items", data := .fields #[.ref d] }).get? d = some ob := Heap.get?_push_of_some _ hob
  have hlen : kvs.length = vs.length := by
    have := rel.length
    unfold intsD at this
    rw [List.length_map] at this
    exact this
  have hzz : vs.length ≤ sizeLine := by
    rw [← rel.length]
    exact hz
  have hat : ∀ (j : Nat) k x, vs[j]? = some (k, x) → ∃ p, kvs[j]? = some p ∧ k = Sum.inl p.1 ∧ ∃ t, x = .int p.2 t := fun j k x hj => by
    have hjl := (List.getElem?_eq_some_iff.mp hj).1
    have hjk : j < kvs.length := by omega
    obtain ⟨q0, hq0, e1, e2⟩ := RKpaired_at rel (i := j) (b := ((Sum.inl (kvs[j]).1 : Key), V.int (kvs[j]).2)) (by unfold intsD; rw [List.getElem?_map, List.getElem?_eq_getElem hjk]; rfl)
    rw [hj] at hq0
    cases hq0
    obtain ⟨t, e3⟩ := (show ∃ t, x = Value.int (kvs[j]).2 t from e2)
    exact ⟨kvs[j], List.getElem?_eq_getElem hjk, e1.symm, t, e3⟩
  refine HG.sorted_items (knd := mixKind X.prog X.w) (kvs := vs) (ep := ep) (r := s1.heap.objs.size) (I1.ok.hd hcalm) ⟨_, Heap.get?_push_size _ rfl, rfl, rfl⟩ ⟨ob, es, hob2, hx, hdat, hk, hp, hn⟩ hzz (by omega) (Heap.size_push _ _) (fun j k x hj => ?_) fun h' tk as out l e kp hal hG hll hla hget hperm hsrt => ?_
  · obtain ⟨p, _, rfl, t, rfl⟩ := hat j k x hj
    refine ⟨fun key hkey => ?_, p.2, t, rfl⟩
    obtain ⟨t', e⟩ := key_val hkey
    exact ⟨p.1, t', e⟩
  · have hsz : (s1.heap.push { cls := .type "dict_items", data := .fields #[.ref d] }).objs.size = s1.heap.objs.size + 1 := Heap.size_push _ _
    have hlt : ∀ {b : Addr} {o : HO}, H1 b = some o → b < s1.heap.objs.size := fun e => (I1.hok _ _ e).lt
    have hll' : s1.heap.objs.size + 1 ≤ l := by rw [← hsz]; exact hll
    have hasg : ∀ a ∈ as, s1.heap.objs.size + 1 < a := fun a ha => by
      have := hG.above a ha
      rw [hsz] at this
      exact this
    have nl : ∀ b, b < s1.heap.objs.size → b ≠ l := fun b hb z => Nat.lt_irrefl _ (Nat.lt_of_lt_of_le (z ▸ hb) (Nat.le_of_succ_le hll'))
    have na : ∀ b, b < s1.heap.objs.size → b ∉ as := fun b hb z => Nat.lt_irrefl _ (Nat.lt_trans hb (Nat.lt_of_succ_lt (hasg b z)))
    have hpair : ∀ (j : Nat) a, as[j]? = some a → ∃ p, kvs[j]? = some p ∧ ∃ t1 t2, h'.get? a = some { cls := .type "tuple", data := .seq #[.int p.1 t1, .int p.2 t2] } ∧ TS.tupOf h' (.ref a) = [p.1, p.2] := fun j a hj => by
      obtain ⟨key, k, x, h2, h3, h4⟩ := hG.pairs j a hj
      obtain ⟨p, hp, rfl, t2, rfl⟩ := hat j k x h2
      obtain ⟨t1, e1⟩ := key_val h3
      have e1' : key = .int p.1 t1 := e1
      subst e1'
      exact ⟨p, hp, t1, t2, h4, TS.tupOf_at ⟨_, h4, rfl, 0, rfl⟩ (.cons _ _ (.cons _ _ .nil))⟩
    have hout : out.toList = (out.toList.map addrOfV).map Value.ref := by
      rw [List.map_map]
      have : ∀ v ∈ out.toList, v = (Value.ref ∘ addrOfV) v := fun v hv => by
        obtain ⟨b, _, rfl⟩ := List.mem_map.mp (hperm.mem_iff.mp hv)
        rfl
      exact (List.map_id _).symm.trans (List.map_congr_left this)
    have hbp : (out.toList.map addrOfV).Perm as := by
      have := hperm.map addrOfV
      rw [List.map_map] at this
      have e2 : as.map (addrOfV ∘ Value.ref) = as := List.map_id _
      rw [e2] at this
      exact this
    have hmapf : as.map (fun a => TS.tupOf h' (.ref a)) = kvs.map fun p => [p.1, p.2] := by
      refine List.ext_getElem? fun j => ?_
      rw [List.getElem?_map, List.getElem?_map]
      cases ej : as[j]? with
      | none =>
        have : kvs[j]? = none := by
          rw [List.getElem?_eq_none_iff] at ej ⊢
          omega
        rw [this]
        rfl
      | some a =>
        obtain ⟨p, hp, _, _, _, e⟩ := hpair j a ej
        rw [hp]
        simp only [Option.map_some, e]
    have hnl : H1 l = none := by
      cases z : H1 l with
      | none => rfl
      | some o => exact absurd rfl (nl l (hlt z))
    have hext : ∀ b o, H1 b = some o → (if b = l then some (HO.lst ((out.toList.map addrOfV).map V.ref)) else if b ∈ as then some (HO.tup ((TS.tupOf h' (.ref b)).map V.int)) else H1 b) = some o := fun b o e => by
      have hb := hlt e
      rw [if_neg (nl b hb), if_neg (na b hb)]
      exact e
    refine ⟨.ref l, fun b => if b = l then some (HO.lst ((out.toList.map addrOfV).map V.ref)) else if b ∈ as then some (HO.tup ((TS.tupOf h' (.ref b)).map V.int)) else H1 b, I1.grow (t' := tk) hext (fun b hb => ?_) (fun b u e => kp b u (Heap.get?_push_of_some _ e)) (fun a o e ha => ?_), rfl,
      q l (out.toList.map addrOfV) (fun a => TS.tupOf h' (.ref a)) _ hext hnl (if_pos rfl) (fun b hb => ?_) ?_ ?_⟩
    · show (if b = l then _ else if b ∈ as then _ else H1 b) = H1 b
      rw [if_neg (nl b hb), if_neg (na b hb)]
    · have e' : (if a = l then some (HO.lst ((out.toList.map addrOfV).map V.ref)) else if a ∈ as then some (HO.tup ((TS.tupOf h' (.ref a)).map V.int)) else H1 a) = some o := e
      by_cases z : a = l
      · rw [if_pos z] at e'
        cases e'
        rw [z]
        refine ⟨?_, out.toList, _, ?_, hget⟩
        · rw [List.length_map, hbp.length_eq, hal]
          exact hzz
        · have := refs_vals (out.toList.map addrOfV)
          rw [← hout] at this
          exact this
      · rw [if_neg z] at e'
        by_cases y : a ∈ as
        · rw [if_pos y] at e'
          cases e'
          obtain ⟨j, hj⟩ := List.mem_iff_getElem?.mp y
          obtain ⟨p, _, t1, t2, h4, e5⟩ := hpair j a hj
          rw [e5]
          exact ⟨by show 2 ≤ sizeLine; decide, [.int p.1 t1, .int p.2 t2], .cons ⟨t1, rfl⟩ (.cons ⟨t2, rfl⟩ .nil), ⟨_, h4, rfl, 0, rfl⟩⟩
        · rw [if_neg y] at e'
          exact absurd (hlt e') (Nat.not_lt.mpr ha)
    · have hb' := hbp.mem_iff.mp hb
      show (if b = l then _ else if b ∈ as then _ else H1 b) = _
      rw [if_neg (fun z : b = l => hla (by rw [← z]; exact hb')), if_pos hb']
    · have := hbp.map fun a => TS.tupOf h' (.ref a)
      rw [hmapf] at this
      exact this
    · rw [List.pairwise_map]
      rw [hout, List.pairwise_map] at hsrt
      exact hsrt
end
end L2

set_option autoImplicit false
set_option maxRecDepth 100000
set_option linter.all false
set_option Elab.async false
/-! Exceptions of the text's own classes: raised in a def, passed on by its callers, caught by a try. -/
namespace L2
open PySem PySem.Spec PyProof.Rows
/-- what stands above ValueError -/
abbrev mroVE : List Value := [.type "ValueError", .type "Exception", .type "BaseException", .type "object"]
/-- a class of the text that stands under ValueError (whatever classes of the text between) and has no __init__ -/
structure ExcC (K : PySem.W.Frag) (C : Addr) : Prop where
  ex : PySem.W.excIn K C mroVE "ValueError.__new__" = true
theorem ExcC.obj {K : PySem.W.Frag} {C : Addr} {h : Heap} (c : ExcC K C) (X : K.In h) : ∃ bm N nm q bs hdct sn sub ab col dd k0 k1 k2 k3 k5 mN,
    h.get? C = some (excClassObj nm q C N bs bm hdct sn sub ab col dd k0 k1 k2 k3 k5 "ValueError.__new__") ∧ h.Ns N mN ∧ mN "__init__" = none ∧ OwnTail h mroVE bm ∧ ∀ v, PySem.W.mroIn K C v = some ((Value.ref C :: bm).contains v) := by
  have q := c.ex
  unfold PySem.W.excIn at q
  split at q
  · rename_i dd cd sl ho
    split at q
    · rename_i C' bm k0 k1 k2 k3 n k5 hm hs
      simp only [Bool.and_eq_true, beq_iff_eq, Bool.not_eq_true'] at q
      obtain ⟨⟨⟨⟨⟨rfl, rfl⟩, hdel⟩, ht⟩, hok⟩, hni⟩ := q
      have hmro : ∀ v, PySem.W.mroIn K C' v = some ((Value.ref C' :: bm).contains v) := fun v => by
        unfold PySem.W.mroIn PySem.W.clsIn
        rw [ho]
        show (if cd.mro.isEmpty = true then none else some (cd.mro.contains v)) = _
        rw [hm]
        rfl
      obtain ⟨nm, bs, mro, ns, qn, hd, sn, sub, ab, col, del⟩ := cd
      dsimp only at hm hdel hok hni
      subst hm hdel
      have hsl : sl = #[k0, k1, k2, k3, some (.builtin "ValueError.__new__"), k5] := by
        obtain ⟨l⟩ := sl
        simp only at hs
        rw [hs]
      subst hsl
      exact ⟨bm, ns, nm, qn, bs, hd, sn, sub, ab, col, dd, k0, k1, k2, k3, k5, _, X _ _ ho, .of_isNs (PySem.W.isNs_of_in X hok), PySem.W.nsMap_none_of_in X hok hni, PySem.W.tail_of_in X ht, hmro⟩
    · cases q
  · cases q
/-- an exception of the class C beside the class C' -/
theorem excMatches_own {M : Model} {A : Around} {E : Value → Shared → Prop} {h : Heap} {g : Array GenState} {d : Drawn} {t : Nat} {os : OsState} {e C C' : Addr} {oe : Obj} {b : Bool} {Q : Bool → Shared → Prop} {K : PySem.W.Frag}
    (X : K.In h) (c : ExcC K C) (c' : ExcC K C') (he : h.get? e = some oe) (hcls : oe.cls = .ref C) (hm : PySem.W.mroIn K C (.ref C') = some b) (hq : Q b ⟨h, g, d, t, os⟩) : wpAny M A (excMatches (.ref e) (.ref C')) Q E ⟨h, g, d, t, os⟩ := by
  obtain ⟨bm, N, nm, q, bs, hdct, sn, sub, ab, col, dd, k0, k1, k2, k3, k5, mN, hC, hN, hni, T, hmr⟩ := c.obj X
  obtain ⟨bm', N', nm', q', bs', hdct', sn', sub', ab', col', dd', k0', k1', k2', k3', k5', mN', hC', hN', hni', T', hmr'⟩ := c'.obj X
  have hcB : (Value.ref C' :: bm').contains (.type "BaseException") = true := by rw [List.contains_cons, T'.hasType (b := true) (by decide +kernel), Bool.or_true]
  have hcC : (Value.ref C :: bm).contains (.ref C') = b := by
    rw [hmr] at hm
    exact Option.some.inj hm
  have f := tc_notTuple
  unfold excMatches
  cases b with
  | true =>
    repeat (first | (with_reducible refine wpAny_loadPart_at he ?_; rw [hcls]) | with_reducible refine wpAny_loadPart_at hC' ?_ | (with_reducible refine wpAny_isSubtype_exc hC' ?_; rw [hcB]) | (with_reducible refine wpAny_isSubtype_exc hC ?_; rw [hcC]) | wp_step)
    exact hq
  | false =>
    repeat (first | (with_reducible refine wpAny_loadPart_at he ?_; rw [hcls]) | with_reducible refine wpAny_loadPart_at hC' ?_ | (with_reducible refine wpAny_isSubtype_exc hC' ?_; rw [hcB]) | (with_reducible refine wpAny_isSubtype_exc hC ?_; rw [hcC]) | wp_step)
    exact hq
/-! ### an exception in flight, behind a call -/
theorem ObjOk.get {P : Program} {w : World} {H : Hp} {h : Heap} {a : Addr} {o : HO} (x : ObjOk P w H h a o) : ∃ u, h.get? a = some u := by
  cases o with
  | lst xs => obtain ⟨_, _, _, _, e⟩ := x; exact ⟨_, e⟩
  | tup xs => obtain ⟨_, _, _, _, e, _⟩ := x; exact ⟨_, e⟩
  | dK kvs => obtain ⟨_, _, _, _, o, _, _, e, _⟩ := x; exact ⟨_, e⟩
  | dT kvs => obtain ⟨_, _, _, _, o, _, _, e, _⟩ := x; exact ⟨_, e⟩
  | set S n => obtain ⟨o, _, _, _, e, _⟩ := x; exact ⟨_, e⟩
  | ins C dx fs => obtain ⟨_, _, _, e, _⟩ := x; exact ⟨_, e⟩
  | own y => exact x
  | xd fs => obtain ⟨_, ⟨_, _, _, e, _⟩, _⟩ := x; exact ⟨_, e⟩
  | rng lo hi => obtain ⟨_, _, _, e⟩ := x; exact ⟨_, e⟩
  | frz ob u => obtain ⟨e, _⟩ := x; exact ⟨_, e⟩
  | tbl ps => exact ⟨_, (show h.get? a = some _ from x)⟩
  | met f y => exact ⟨_, (show h.get? a = some _ from x)⟩
  | ext φ => obtain ⟨_, e, _⟩ := x; exact e
theorem HOk.over {P : Program} {w : World} {H : Hp} {h h' B : Heap} (x : HOk P w H h) (t : ∀ b u, H b = some u → ∃ o, B.get? b = some o) (k : B.StaysIn h) (k' : B.StaysIn h') : HOk P w H h' := fun a o e =>
  (x a o e).stay (fun b u hb q => by
    have hz : ∃ ob, B.get? b = some ob := by
      rcases hb with z | z
      · rw [z]; exact t _ _ e
      · exact t _ _ z
    obtain ⟨ob, ho⟩ := hz
    have := k b ob ho
    rw [q] at this
    cases this
    exact k' b _ ho) (fun _ q => q) fun _ _ q => q
/-- the exception a of the class cls is behind a call at s, H; B: all that stands apart from it and from the frames l -/
structure Fl (P : Program) (w : World) (l : List Env) (H : Hp) (s : Shared) (a : Addr) (cls : Value) (H' : Hp) (B : Heap) (s' : Shared) : Prop where
  os : s'.os = s.os
  bare : AllBare s'.gens
  un : Un (frs l) [] H H' s.heap s'.heap
  hok : HOk P w H' s'.heap
  fl : ∃ a0, Heap.FlyingW B l a cls a0 s'.heap
  cov : ∀ b o, s.heap.get? b = some o → H b = none → b ∉ frs l → B.get? b = some o
  ex : ∀ b o, s.heap.get? b = some o → b ∉ frs l → ∃ o', B.get? b = some o'
  trk : ∀ b u, H' b = some u → ∃ o, B.get? b = some o
/-- the same exception, its traceback turned -/
theorem Fl.again {P : Program} {w : World} {l : List Env} {H : Hp} {s : Shared} {a : Addr} {cls a0 : Value} {H' : Hp} {B : Heap} {s' : Shared} {h6 : Heap} (F : Fl P w l H s a cls H' B s') (f6 : Heap.FlyingW B l a cls a0 h6) (sm : s'.heap.UpToSlots h6) :
    Fl P w l H s a cls H' B { s' with heap := h6 } := by
  obtain ⟨a1, f1⟩ := F.fl
  refine ⟨F.os, F.bare, ⟨fun b o e n hb _ => f6.1 b o (F.cov b o e n hb), fun b o e n hb hx => ?_, F.un.free, fun b o e hx => ?_, F.un.tups, F.un.frzs, F.un.tbls⟩, F.hok.over F.trk f1.1 f6.1, ⟨a0, f6⟩, F.cov, F.ex, F.trk⟩
  · obtain ⟨sl, e1⟩ := F.un.slot b o e n hb hx
    obtain ⟨_, o', e2, nf⟩ := f1.2.2.1.mem hb
    rw [e1] at e2
    cases e2
    obtain ⟨sl2, e3⟩ := sm b _ e1 nf
    exact ⟨sl2, e3⟩
  · by_cases hb : b ∈ frs l
    · obtain ⟨_, o', e2, _⟩ := f6.2.2.1.mem hb
      exact ⟨o', e2⟩
    · obtain ⟨o', e2⟩ := F.ex b o e hb
      exact ⟨o', f6.1 b o' e2⟩
section
variable {X : Cx} {pins : List (Addr × Obj)} {σ : St} {H H' : Hp} {s s' s1 : Shared} {a : Addr} {cls a0 : Value} {B h6 : Heap} {vs : List Value}
/-- behind the call, in the caller -/
theorem Inv.flown (I : Inv X pins σ H s) (F : Fl X.prog X.w X.stack H s a cls H' B s') : Inv X pins σ H' s' := I.call' F.os F.un F.hok F.bare fun b z => absurd z (by simp)
theorem Inv.notL (I : Inv X pins σ H s) (hst : X.stack = X.env :: X.outer) (hf : X.env.frame = some X.env.locals) {b : Addr} {o : Obj} (e : X.s₀.heap.get? b = some o) (hb : b ∉ X.fs) : b ∉ frs X.stack := fun z => by
  rw [hst] at z
  unfold frs at z
  rw [List.filterMap_cons, hf] at z
  rcases List.mem_cons.mp z with z | z
  · exact absurd (Nat.lt_of_lt_of_le (Heap.lt_size e) I.ok.above) (by rw [z]; exact Nat.lt_irrefl _)
  · exact hb z
/-- the caller's frame is left too -/
theorem Fl.left (I : Inv X pins σ H s) (hst : X.stack = X.env :: X.outer) (hf : X.env.frame = some X.env.locals) (hex : X.ex = []) (F : Fl X.prog X.w X.stack H s a cls H' B s') (f6 : Heap.FlyingW B X.outer a cls a0 h6) (sm : s'.heap.UpToSlots h6) :
    Fl X.prog X.w X.outer X.H₀ X.s₀ a cls H' B { s' with heap := h6 } := by
  obtain ⟨a1, f1⟩ := F.fl
  have nx : ∀ b : Addr, b ∉ X.ex := fun b z => by rw [hex] at z; cases z
  have cov : ∀ b o, X.s₀.heap.get? b = some o → X.H₀ b = none → b ∉ X.fs → B.get? b = some o := fun b o e n hb =>
    F.cov b o (I.base.keep b o e n hb (nx b)) (I.base.free b o e n (nx b)) (I.notL hst hf e hb)
  have ex : ∀ b o, X.s₀.heap.get? b = some o → b ∉ X.fs → ∃ o', B.get? b = some o' := fun b o e hb => by
    obtain ⟨o1, e1⟩ := I.base.there b o e (nx b)
    exact F.ex b o1 e1 (I.notL hst hf e hb)
  refine ⟨F.os.trans I.os, F.bare, ⟨fun b o e n hb _ => f6.1 b o (cov b o e n hb), fun b o e n hb hx => ?_, fun b o e n hx => ?_, fun b o e hx => ?_, fun b xs e => F.un.tups b xs (I.base.tups b xs e), fun b o xs e => F.un.frzs b o xs (I.base.frzs b o xs e), fun b ps e => ?_⟩, F.hok.over F.trk f1.1 f6.1, ⟨a0, f6⟩, cov, ex, F.trk⟩
  · obtain ⟨sl, e1⟩ := I.base.slot b o e n hb (nx b)
    obtain ⟨sl2, e2⟩ := F.un.any e1 (I.base.free b o e n (nx b)) (by simp)
    obtain ⟨_, o', e3, nf⟩ := I.ok.funs.mem hb
    rw [e] at e3
    cases e3
    obtain ⟨sl3, e4⟩ := sm b _ e2 nf
    exact ⟨sl3, e4⟩
  · obtain ⟨o1, e1⟩ := I.base.there b o e (nx b)
    exact F.un.free b o1 e1 (I.base.free b o e n (nx b)) (by simp)
  · by_cases hb : b ∈ X.fs
    · obtain ⟨_, o', e2, _⟩ := f6.2.2.1.mem hb
      exact ⟨o', e2⟩
    · obtain ⟨o', e2⟩ := ex b o e hb
      exact ⟨o', f6.1 b o' e2⟩
  · obtain ⟨m1, e1⟩ := I.base.tbls b ps e
    obtain ⟨m2, e2⟩ := F.un.tbls b _ e1
    exact ⟨m1 ++ m2, by rw [e2, Array.append_assoc]⟩
/-- the exception was made here, the frame is left -/
theorem Fl.made (I : Inv X pins σ H s) (hst : X.stack = X.env :: X.outer) (hf : X.env.frame = some X.env.locals) (hex : X.ex = []) (hx : Heap.MadeExcOf s.heap s1.heap a cls vs) (hos : s1.os = s.os) (hg : s1.gens = s.gens)
    (f6 : Heap.FlyingW (PySem.W.hideAll s.heap (frs X.stack)) X.outer a cls a0 h6) (sm : s1.heap.UpToSlots h6) : Fl X.prog X.w X.outer X.H₀ X.s₀ a cls H (PySem.W.hideAll s.heap (frs X.stack)) { s1 with heap := h6 } := by
  have nx : ∀ b : Addr, b ∉ X.ex := fun b z => by rw [hex] at z; cases z
  have cov : ∀ b o, X.s₀.heap.get? b = some o → X.H₀ b = none → b ∉ X.fs → (PySem.W.hideAll s.heap (frs X.stack)).get? b = some o := fun b o e n hb => PySem.W.hideAll_get _ (I.base.keep b o e n hb (nx b)) (I.notL hst hf e hb)
  have ex : ∀ b o, X.s₀.heap.get? b = some o → b ∉ X.fs → ∃ o', (PySem.W.hideAll s.heap (frs X.stack)).get? b = some o' := fun b o e hb => by
    obtain ⟨o1, e1⟩ := I.base.there b o e (nx b)
    exact ⟨o1, PySem.W.hideAll_get _ e1 (I.notL hst hf e hb)⟩
  have trk : ∀ b u, H b = some u → ∃ o, (PySem.W.hideAll s.heap (frs X.stack)).get? b = some o := fun b u e => by
    obtain ⟨o, ho⟩ := (I.hok b u e).get
    refine ⟨o, PySem.W.hideAll_get _ ho fun z => ?_⟩
    rw [I.stkFree b z] at e
    cases e
  refine ⟨hos.trans I.os, by rw [hg]; exact I.bare, ⟨fun b o e n hb _ => f6.1 b o (cov b o e n hb), fun b o e n hb hx' => ?_, fun b o e n hx' => I.base.free b o e n (nx b), fun b o e hx' => ?_, I.base.tups, I.base.frzs, I.base.tbls⟩,
    I.hok.over trk (fun b o e => PySem.W.of_hideAll _ e) f6.1, ⟨a0, f6⟩, cov, ex, trk⟩
  · obtain ⟨sl, e1⟩ := I.base.slot b o e n hb (nx b)
    obtain ⟨_, o', e3, nf⟩ := I.ok.funs.mem hb
    rw [e] at e3
    cases e3
    obtain ⟨sl3, e4⟩ := sm b _ (hx.keeps _ _ e1) nf
    exact ⟨sl3, e4⟩
  · by_cases hb : b ∈ X.fs
    · obtain ⟨_, o', e2, _⟩ := f6.2.2.1.mem hb
      exact ⟨o', e2⟩
    · obtain ⟨o', e2⟩ := ex b o e hb
      exact ⟨o', f6.1 b o' e2⟩
end
/-- how an exception of the text's own lies behind a call -/
def CX1 (P : Program) (w : World) (K : PySem.W.Frag) : CXT := fun l H s E e s' => ∃ (a C : Addr) (H' : Hp) (B : Heap), e = .ref a ∧ ExcC K C ∧ Fl P w l H s a (.ref C) H' B s' ∧ E (.ref C) none H'
/-- two promises of one def -/
theorem FnOk.or {P : Program} {w : World} {K : PySem.W.Frag} {mg : Str → Option Value} {base : Heap} {CX : CXT} {k : Nat} {f : Addr} {fd : FuncData} {ps : List Str} {sp sp' : Sp} (F : FnOk P w K mg base CX k f fd ps sp) (G : FnOk P w K mg base CX k f fd ps sp') :
    FnOk P w K mg base CX k f fd ps (fun vs H Q E => sp vs H Q E ∨ sp' vs H Q E) :=
  ⟨fun vs H Q E h => h.elim (F.len vs H Q E) (G.len vs H Q E), fun A outer s H args us vs Q E hr he hb hv hs => hs.elim (F.run A outer s H args us vs Q E hr he hb hv) (G.run A outer s H args us vs Q E hr he hb hv)⟩
section
variable {P : Program} {w : World} {K : PySem.W.Frag} {mg : Str → Option Value} {base : Heap} {N : List Str} {qual : Str} {scope : Scope} {f : Addr} {cd : Value} {A : Around} {outer : List Env} {s₀ : Shared} {H₀ : Hp} {E : XK}
/-- a callee's exception leaves the def -/
theorem passX : Passes (CX1 P w K) (cxOf (CX1 P w K) P w K mg base N qual scope f cd A outer s₀ H₀ E) E := fun pins σ H s e s' I h => by
  obtain ⟨a, C, H', B, rfl, c, F, hE⟩ := h
  obtain ⟨a0, fl⟩ := id F.fl
  exact wpAny_leaves_onW (I.ok.frames) rfl fl fun h6 f6 sm => ⟨a, C, H', B, rfl, c, Fl.left I rfl rfl rfl F f6 sm, hE⟩
/-- what is raised here leaves the context as E wants -/
def Raises (X : Cx) (E : XK) : Prop := ∀ (pins : List (Addr × Obj)) (σ : St) (H : Hp) (s : Shared) (a C : Addr) (vs : List Value) (h' : Heap), ExcC X.K C → Inv X pins σ H s → Heap.MadeExcOf s.heap h' a (.ref C) vs → E (.ref C) none H → X.xe (.ref a) { s with heap := h' }
theorem raisesX : Raises (cxOf (CX1 P w K) P w K mg base N qual scope f cd A outer s₀ H₀ E) E := fun pins σ H s a C vs h' c I hx hE => by
  have hin : ∀ env ∈ (cxOf (CX1 P w K) P w K mg base N qual scope f cd A outer s₀ H₀ E).stack, ∀ b, env.frame = some b → b ∈ frs (cxOf (CX1 P w K) P w K mg base N qual scope f cd A outer s₀ H₀ E).stack := fun env he b hb => List.mem_filterMap.mpr ⟨env, he, hb⟩
  exact wpAny_leaves_madeW (h := s.heap) (base := PySem.W.hideAll s.heap (frs (cxOf (CX1 P w K) P w K mg base N qual scope f cd A outer s₀ H₀ E).stack)) (I.ok.frames) rfl (fun b o q => PySem.W.of_hideAll _ q) (PySem.W.funFrames_hide I.stack hin) hx
    fun h6 t f6 _ _ sm => ⟨a, C, H, _, rfl, c, Fl.made (s1 := { s with heap := h' }) I rfl rfl rfl hx rfl rfl f6 sm, hE⟩
end
/-! ### raise -/
def tRaise (C : Addr) (E : XK) (t : TA) : TS := fun _ σ H => t σ H fun vs H1 => vs.length ≤ sizeLine ∧ E (.ref C) none H1
section
variable {X : Cx} {E : XK} {C : Addr} {x : Str} {np cpos pos : Pos} {e : Expr} {es : List Expr} {t : TA}
theorem ps_raise (hX : Raises X E) (hcalm : X.calm = true) (hg : Gl X x) (hm : X.mg x = some (.ref C)) (c : ExcC X.K C) (ha : PA X (e :: es) t) (hdb : (x == ("__debug__" : Str)) = false := by decide)
    (he : starEach (e :: es) X.env = (false, eval e X.env) :: starEach es X.env := by rfl) (hpl : (backTo cpos (starEach es X.env)).any (·.1) = false := by rfl) :
    PS X (.Raise (some (.Call (.Name x np) (e :: es) [] cpos)) none pos) (tRaise C E t) := by
  intro pins s σ H D I h
  obtain ⟨bm, N, nm, q, bs, hdct, sn, sub, ab, col, dd, k0, k1, k2, k3, k5, mN, hC, hN, hni, T, hmr⟩ := c.obj I.mod.kin
  refine wpAny_Raise_call_subT (C := C) (nm := nm) (q := q) (N := N) (bs := bs) (bm := bm) (hdct := hdct) (sn := sn) (sub := sub) (ab := ab) (col := col) (dd := dd) (k0 := k0) (k1 := k1) (k2 := k2) (k3 := k3) (k5 := k5)
    PySem.F.excBase_ValueError (mN := mN) (T.hasType PySem.F.excBase_ValueError.hasBase) (I.ok.hd hcalm) (by rw [he]; show (false || (backTo cpos (starEach es X.env)).any (·.1)) = false; rw [hpl]; rfl) hni (ld_glob I hg hm ⟨rfl, ?_⟩ hdb)
  have h2 := ha cpos pins s σ H _ I h
  rw [he] at h2 ⊢
  refine Calls.evalArgs_plain (wpAny_mono h2 (fun us s2 z => ?_) fun _ _ y => y)
  obtain ⟨vs, H1, I1, r, z1, z2⟩ := z
  exact ⟨rfl, by rw [← r.length]; exact z1, I1.bk _ _ hC, hN.keeps I1.bk, T.keeps I1.bk, fun h' e' hm' => hX pins σ H1 s2 e' C us h' c I1 hm' z2⟩
end
/-! ### try -/
/-- a try's body: its own wish about exceptions, the pins kept -/
abbrev Cx.tr (X : Cx) (E : Value → Shared → Prop) (ps : List (Addr × Obj)) : Cx := { X with xe := E, pn := ps }
/-- an except suite: an exception is at hand -/
abbrev Cx.hd (X : Cx) (v : Value) : Cx := { X with A := X.A.mark (some v), calm := false, xe := fun _ _ => False }
section
variable {X : Cx} {pins ps : List (Addr × Obj)} {σ : St} {H : Hp} {s : Shared} {E : Value → Shared → Prop} {v : Value}
theorem Inv.tr (I : Inv X pins σ H s) (E : Value → Shared → Prop) : Inv (X.tr E (X.pn ++ pins)) [] σ H s :=
  ⟨⟨I.ok.mod, I.ok.kind, I.ok.glob, I.ok.blt, I.ok.above, I.ok.inj, I.ok.has, I.ok.cab, I.ok.hd, I.ok.frames, I.ok.stk, I.ok.exf, I.ok.bs, I.ok.bsz, I.ok.noex, I.ok.exfs, I.ok.funs, I.ok.frf⟩, I.os, I.bare, I.base, I.loc, I.cell, I.free, I.freeC,
    fun p hp => I.pin p (by rw [List.append_nil] at hp; exact hp), I.hok, I.len⟩
theorem Inv.untr (I : Inv (X.tr E (X.pn ++ pins)) ps σ H s) : Inv X pins σ H s :=
  ⟨⟨I.ok.mod, I.ok.kind, I.ok.glob, I.ok.blt, I.ok.above, I.ok.inj, I.ok.has, I.ok.cab, I.ok.hd, I.ok.frames, I.ok.stk, I.ok.exf, I.ok.bs, I.ok.bsz, I.ok.noex, I.ok.exfs, I.ok.funs, I.ok.frf⟩, I.os, I.bare, I.base, I.loc, I.cell, I.free, I.freeC,
    fun p hp => I.pin p (List.mem_append_left _ hp), I.hok, I.len⟩
theorem SP.untr {D : Ends} {f : Flow} {s' : Shared} (h : SP (X.tr E (X.pn ++ pins)) ps D f s') : SP X pins D f s' := by
  cases f with
  | next => obtain ⟨σ', H', I, q⟩ := h; exact ⟨σ', H', I.untr, q⟩
  | brk => obtain ⟨σ', H', I, q⟩ := h; exact ⟨σ', H', I.untr, q⟩
  | cont => obtain ⟨σ', H', I, q⟩ := h; exact ⟨σ', H', I.untr, q⟩
  | ret u => obtain ⟨v, σ', H', I, r, q⟩ := h; exact ⟨v, σ', H', I.untr, r, q⟩
theorem Inv.hd (I : Inv X pins σ H s) (v : Value) : Inv (X.hd v) pins σ H s :=
  ⟨⟨I.ok.mod, I.ok.kind, I.ok.glob, I.ok.blt, I.ok.above, I.ok.inj, I.ok.has, I.ok.cab, fun z => (by cases z), I.ok.frames, I.ok.stk, I.ok.exf, I.ok.bs, I.ok.bsz, I.ok.noex, I.ok.exfs, I.ok.funs, I.ok.frf⟩, I.os, I.bare, I.base, I.loc, I.cell, I.free, I.freeC, I.pin, I.hok, I.len⟩
theorem Inv.unhd (ok : X.Ok) (I : Inv (X.hd v) pins σ H s) : Inv X pins σ H s :=
  ⟨ok, I.os, I.bare, I.base, I.loc, I.cell, I.free, I.freeC, I.pin, I.hok, I.len⟩
theorem SP.unhd (ok : X.Ok) {D : Ends} {f : Flow} {s' : Shared} (h : SP (X.hd v) pins D f s') : SP X pins D f s' := by
  cases f with
  | next => obtain ⟨σ', H', I, q⟩ := h; exact ⟨σ', H', I.unhd ok, q⟩
  | brk => obtain ⟨σ', H', I, q⟩ := h; exact ⟨σ', H', I.unhd ok, q⟩
  | cont => obtain ⟨σ', H', I, q⟩ := h; exact ⟨σ', H', I.unhd ok, q⟩
  | ret u => obtain ⟨v, σ', H', I, r, q⟩ := h; exact ⟨v, σ', H', I.unhd ok, r, q⟩
end
/-- the clauses' reading, by the exception's class -/
def PH (X : Cx) (hs : List ExceptHandler) (th : Value → TS) : Prop :=
  ∀ (pins : List (Addr × Obj)) (sc : Shared) (σ : St) (Hc : Hp) (D : Ends) (a C : Addr) (H : Hp) (B : Heap) (s : Shared), Inv X pins σ Hc sc → ExcC X.K C → Fl X.prog X.w X.stack Hc sc a (.ref C) H B s → th (.ref C) D σ H →
    wpAny (model X.prog X.w) X.A (handleBy (.ref a) X.env hs) (SP X pins D) X.xe s
def tH (K : PySem.W.Frag) (C' : Addr) (ts : TS) (tr : Value → TS) : Value → TS := fun cls D σ H => ∃ C, cls = .ref C ∧ ((PySem.W.mroIn K C (.ref C') = some true ∧ ts D σ H) ∨ (PySem.W.mroIn K C (.ref C') = some false ∧ tr cls D σ H))
def tH0 : Value → TS := fun _ _ _ _ => False
section
variable {X : Cx} {C' : Addr} {x : Str} {np pos : Pos} {b₀ : Stmt} {suite body : List Stmt} {rest hs : List ExceptHandler} {h0 : ExceptHandler} {ts : TS} {tr th : Value → TS} {tb : XK → TS}
theorem ph_nil : PH X [] tH0 := fun _ _ _ _ _ _ _ _ _ _ _ _ _ h => h.elim
theorem ph_cons (hg : Gl X x) (hm : X.mg x = some (.ref C')) (c' : ExcC X.K C') (hs : ∀ v, PSs (X.hd v) (b₀ :: suite) ts) (hr : PH X rest tr) (hdb : (x == ("__debug__" : Str)) = false := by decide) :
    PH X (.ExceptHandler (some (.Name x np)) none (b₀ :: suite) pos :: rest) (tH X.K C' ts tr) := by
  intro pins sc σ Hc D a C H B s I c F h
  obtain ⟨C0, e0, h⟩ := h
  cases e0
  have I1 := I.flown F
  obtain ⟨a0, fl⟩ := id F.fl
  obtain ⟨ob, hob, hobc⟩ := fl.there
  refine wpAny_handleBy_cons (codeAny_handlers_test (ld_glob (I1.hd (.ref a)) hg hm ?_ hdb)) (by intro q; cases q)
  obtain ⟨hp, g, d, tk, os⟩ := s
  rcases h with ⟨hm2, h⟩ | ⟨hm2, h⟩
  · refine excMatches_own (X := I1.kIn) c c' hob hobc hm2 (codeAny_handlers_suite (lands_againW fl fun h6 f6 sm => ?_))
    have F6 := F.again f6 sm
    have I6 := I.flown F6
    exact wpAny_mono (hs (.ref a) pins _ σ H D (I6.hd _) h) (fun f s2 q => q.unhd I.ok) fun _ _ z => False.elim z
  · exact excMatches_own (X := I1.kIn) c c' hob hobc hm2 (hr pins sc σ Hc D a C H B _ I c F h)
def tTryX (tb : XK → TS) (th : Value → TS) : TS := fun D σ H => tb (fun cls _ H' => ∀ σ' : St, σ'.length = σ.length → th cls D σ' H') D σ H
theorem ps_tryX (hst : X.stack = X.env :: X.outer) (hf : X.env.frame = some X.env.locals) (hb : ∀ (E1 : XK) (xe : Value → Shared → Prop) (ps : List (Addr × Obj)), Passes (CX1 X.prog X.w X.K) (X.tr xe ps) E1 → PSs (X.tr xe ps) body (tb E1)) (hh : PH X (h0 :: hs) th) :
    PS X (.Try body (h0 :: hs) [] [] pos) (tTryX tb th) := by
  intro pins s σ H D I h
  refine wpAny_Try_except ?_
  have P1 : Passes (CX1 X.prog X.w X.K) (X.tr (fun e s₁ => wpAny (model X.prog X.w) X.A (noteFrame e X.env) (fun _ s₂ => wpAny (model X.prog X.w) X.A (setFlight e none) (fun _ s₃ => wpAny (model X.prog X.w) X.A (handleBy e X.env (h0 :: hs)) (SP X pins D) X.xe s₃) X.xe s₂) X.xe s₁) (X.pn ++ pins))
      (fun cls _ H' => ∀ σ' : St, σ'.length = σ.length → th cls D σ' H') := fun ps1 σ1 H1 s1 e s2 I1 hc => by
    obtain ⟨a, C, H2, B, rfl, c, F, hE⟩ := hc
    have I2 := I1.untr
    obtain ⟨a0, fl⟩ := id F.fl
    have fl' : Heap.FlyingW B (X.env :: X.outer) a (.ref C) a0 s2.heap := hst ▸ fl
    refine wpAny_looks_onW (I.ok.frames.trans (congrArg some hst)) hf fl' fun h4 held4 sm4 => ?_
    refine wpAny_landsW held4 fun h5 f5 sm5 => ?_
    exact hh pins s1 σ1 H1 D a C H2 B _ I2 c (F.again (hst.symm ▸ f5) (sm4.trans sm5)) (hE σ1 (I2.len.trans I.len.symm))
  refine wpAny_mono (hb _ _ _ P1 [] s σ H D (I.tr _) h) (fun f s1 q => ?_) fun _ _ z => z
  have q' := q.untr
  cases f with
  | next =>
    obtain ⟨σ', H', I', q2⟩ := q'
    exact (L2.pss_nil (X := X)) pins s1 σ' H' D I' q2
  | brk => exact q'
  | cont => exact q'
  | ret u => exact q'
end
end L2

set_option autoImplicit false
set_option maxRecDepth 100000
set_option linter.all false
set_option Elab.async false
/-! The layer's readings once more, each as a structure: Lean's elaborator looks through a def at every node of a term, never through a structure. -/
namespace R
open PySem PySem.Spec PyProof.Rows L2
structure PE (X : Cx) (e : Expr) (t : TE) : Prop where
  un : L2.PE X e t
structure PT (X : Cx) (e : Expr) (t : TT) : Prop where
  un : L2.PT X e t
structure PW (X : Cx) (e : Expr) (t : TT) : Prop where
  un : L2.PW X e t
structure PA (X : Cx) (es : List Expr) (t : TA) : Prop where
  un : L2.PA X es t
structure PS (X : Cx) (st : Stmt) (t : TS) : Prop where
  un : L2.PS X st t
structure PSs (X : Cx) (st : List Stmt) (t : TS) : Prop where
  un : L2.PSs X st t
structure PC (X : Cx) (op : CmpOp) (a b : Expr) (t : TE) : Prop where
  un : L2.PC X op a b t
structure PG (X : Cx) (tg : Expr) (t : TG) : Prop where
  un : L2.PG X tg t
structure PGs (X : Cx) (ts : List Expr) (t : TGs) : Prop where
  un : L2.PGs X ts t
structure PI (X : Cx) (tg iter : Expr) (wi : TI) : Prop where
  un : L2.PI X tg iter wi
structure PO (X : Cx) (e : Option Expr) (t : TO) : Prop where
  un : L2.PO X e t
structure PF (X : Cx) (ifs : List Expr) (t : TT) : Prop where
  un : L2.PF X ifs t
section
variable {X : Cx} {a b c e o l tg iter : Expr} {es rest : List Expr} {ta tb tc te td ty tv tl to : TE} {t : TA} {tA tB' : TT} {pos pos' p p2 apos cpos : Pos} {x : Str} {st : Stmt} {sts : List Stmt} {u v : TS}
theorem PW.pt (h : PW X e tA) : PT X e tA := ⟨L2.PW.pt h.un⟩
theorem pv (i : Nat) (hN : X.N[i]? = some x := by rfl) (hv : Vis X.env.scope x := by first | exact Or.inl rfl | exact Or.inr (Or.inl rfl) | exact Or.inr (Or.inr rfl)) (hd : (x == ("__debug__" : Str)) = false := by decide)
    (hcd : (x == ("__classdict__" : Str)) = false := by decide) : PE X (.Name x pos) (tVar i) := ⟨L2.pv i hN hv hd hcd⟩
theorem pe_bltn {v : V} {u : Value} (hg : Gl X x) (hm : X.mg x = none) (hv : bootBuiltins x = some u) (r : RelV v u) (hn : x ≠ "__name__" := by decide) (hd : (x == ("__debug__" : Str)) = false := by decide) : PE X (.Name x pos) (tC v) := ⟨L2.pe_bltn hg hm hv r hn hd⟩
theorem pe_int {i : Int} {j} : PE X (.Constant (.int i) j pos) (tC (.int i)) := ⟨L2.pe_int⟩
theorem pe_bl {b : Bool} {j} : PE X (.Constant (.bool b) j pos) (tC (.bl b)) := ⟨L2.pe_bl⟩
theorem pe_non {j} : PE X (.Constant .none j pos) (tC .non) := ⟨L2.pe_non⟩
theorem pe_str {x j} : PE X (.Constant (.str x) j pos) (tC (.str x)) := ⟨L2.pe_str⟩
theorem pe_lst (h : PA X es t) : PE X (.List es pos) (tLst t) := ⟨L2.pe_lst h.un⟩
theorem pe_tup {x1} (h : PA X es t) : PE X (.Tuple es x1 pos) (tTup t) := ⟨L2.pe_tup h.un⟩
theorem pe_op {op : Operator} {r : R2} (ho : OpR X (binaryOp op) r) (ha : PE X a ta) (hb : PE X b tb) : PE X (.BinOp a op b pos) (tOp r ta tb) := ⟨L2.pe_op ho ha.un hb.un⟩
theorem pe_ix {r : R2} (hr : IxR X r) (ha : PE X a ta) (hb : PE X b tb) (hs : PlainIx b) : PE X (.Subscript a b pos) (tOp r ta tb) := ⟨L2.pe_ix hr ha.un hb.un hs⟩
theorem pe_callB {id : String} {r : List V → Hp → VK → Prop} (hc : CallR X (.builtin id) r) (hg : Gl X x) (hm : X.mg x = none) (hv : bootBuiltins x = some (.builtin id)) (ha : PA X (e :: es) t) (hn : x ≠ "__name__" := by decide) (hdb : (x == ("__debug__" : Str)) = false := by decide)
    (he : starEach (e :: es) X.env = (false, eval e X.env) :: starEach es X.env := by rfl) (hpl : (backTo pos (starEach es X.env)).any (·.1) = false := by rfl) : PE X (.Call (.Name x p) (e :: es) [] pos) (tCB r t) := ⟨L2.pe_callB hc hg hm hv ha.un hn hdb he hpl⟩
theorem pe_callTy {T : String} {r : List V → Hp → VK → Prop} (hc : CallR X (.type T) r) (hg : Gl X x) (hm : X.mg x = none) (hv : bootBuiltins x = some (.type T)) (ha : PA X (e :: es) t) (hn : x ≠ "__name__" := by decide) (hdb : (x == ("__debug__" : Str)) = false := by decide)
    (he : starEach (e :: es) X.env = (false, eval e X.env) :: starEach es X.env := by rfl) (hpl : (backTo pos (starEach es X.env)).any (·.1) = false := by rfl) : PE X (.Call (.Name x p) (e :: es) [] pos) (tCB r t) := ⟨L2.pe_callTy hc hg hm hv ha.un hn hdb he hpl⟩
theorem pe_call {CX : CXT} {k : Nat} {f : Addr} {fd : FuncData} {ps : List Str} {sp : Sp} {dvs : List V} {ds : List Value} {E : XK} (F : FnOk X.prog X.w X.K X.mg X.base CX k f fd ps sp) (hr : Room k X.A) (hg : Gl X x) (hm : X.mg x = some (.ref f)) (hk : PySem.W.keepIn X.K (.ref f) = true) (hb : Binds X.K fd ps ds) (hd : Vals dvs ds) (hx : Passes CX X E)
    (ha : PA X (e :: es) t) (hdb : (x == ("__debug__" : Str)) = false := by decide) (he : starEach (e :: es) X.env = (false, eval e X.env) :: starEach es X.env := by rfl) (hpl : (backTo pos (starEach es X.env)).any (·.1) = false := by rfl) :
    PE X (.Call (.Name x p) (e :: es) [] pos) (tCall sp dvs E t) := ⟨L2.pe_call F hr hg hm hk hb hd hx ha.un hdb he hpl⟩
theorem pe_cmp {op : CmpOp} {t : TE} (h : PC X op a b t) (h1 : behindInMarks op b = false := by first | exact nobehind _ (by decide) (by decide) | rfl) : PE X (.Compare a [op] [b] pos) t := ⟨L2.pe_cmp h.un h1⟩
theorem pe_cmpR {op : CmpOp} {r : R2} (ho : OpR X (compareOp op) r) (ha : PE X a ta) (hb : PE X b tb) (hm : behindInMarks op b = false) : PE X (.Compare a [op] [b] pos) (tOp r ta tb) := ⟨L2.pe_cmpR ho ha.un hb.un hm⟩
theorem pe_and (ha : PE X a ta) (hb : PE X (.BoolOp .And (b :: rest) pos) tb) : PE X (.BoolOp .And (a :: b :: rest) pos) (tAndV ta tb) := ⟨L2.pe_and ha.un hb.un⟩
theorem pe_one {op} {t : TE} (h : PE X a t) : PE X (.BoolOp op [a] pos) t := ⟨L2.pe_one h.un⟩
theorem pe_not (ha : PE X a ta) : PE X (.UnaryOp .Not a pos) (tNotV ta) := ⟨L2.pe_not ha.un⟩
theorem pe_slice {r : V → Option Int → Option Int → Hp → VK → Prop} {lo hi : Option Expr} {tl th : TO} (hr : SlR X r) (he : PE X e te) (hl : PO X lo tl) (hu : PO X hi th) : PE X (.Subscript e (.Slice lo hi none p2) pos) (tSl r te tl th) := ⟨L2.pe_slice hr he.un hl.un hu.un⟩
theorem pe_dget (hu : X.A.units + 1 < cLine) (ho : PE X o td) (hi : PE X e ty) (hs : NoSl e) : PE X (.Subscript o e pos) (tDGet td ty) := ⟨L2.pe_dget hu ho.un hi.un hs⟩
theorem pe_dget1 (hu : X.A.units + 1 < cLine) (ho : PE X o td) (he : PE X e ty) (m : M1 X o "get" apos e cpos) : PE X (.Call (.Attribute o "get" apos) [e] [] cpos) (tDGet1 td ty) := ⟨L2.pe_dget1 hu ho.un he.un m⟩
theorem pe_dnewK : PE X (.Dict [] [] pos) tDNewK := ⟨L2.pe_dnewK⟩
theorem pe_bm {T id : String} {name : Str} {r : V → List V → Hp → VK → Prop} (pa : PlainAttrs T) (slot : Slot T name id) (hty : typeOf (.builtin id) = pure (.type "method_descriptor")) (hm : MtR X id r) (ho : PE X o to) (ha : PA X (e :: es) t)
    (hbase : attributeBase o name X.env (eval o X.env) = eval o X.env := by rfl)
    (hfew : ((backTo cpos (starEach (e :: es) X.env)).all (fun x => !x.1) && (backToKw cpos (keywordEach [] X.env)).all (fun x => x.1.isSome)
      && decide ((e :: es).length + ([] : List Keyword).length + (if ([] : List Keyword).isEmpty then 0 else 1) < 30)) = true := by rfl)
    (hline : (apos.endLine == cpos.line) = true := by rfl) (hs : starEach (e :: es) X.env = (false, eval e X.env) :: starEach es X.env := by rfl) (hplain : (backTo cpos (starEach es X.env)).any (·.1) = false := by rfl) :
    PE X (.Call (.Attribute o name apos) (e :: es) [] cpos) (tBM X.K T r to t) := ⟨L2.pe_bm pa slot hty hm ho.un ha.un hbase hfew hline hs hplain⟩
theorem pt_cmp {op : CmpOp} {t : TE} (h : PC X op a b t) (h1 : behindInMarks op b = false := by first | exact nobehind _ (by decide) (by decide) | rfl) : PT X (.Compare a [op] [b] pos) (tB t) := ⟨L2.pt_cmp h.un h1⟩
theorem pt_cmpR {op : CmpOp} {r : R2} (ho : OpR X (compareOp op) r) (ha : PE X a ta) (hb : PE X b tb) (hm : behindInMarks op b = false) : PT X (.Compare a [op] [b] pos) (tTest (tOp r ta tb)) := ⟨L2.pt_cmpR ho ha.un hb.un hm⟩
theorem pt_not (ha : PT X a tA) : PT X (.UnaryOp .Not a pos) (tNot tA) := ⟨L2.pt_not ha.un⟩
theorem pt_val {t : TE} (h : PE X e t) (he : ∀ whole, isTrue e X.env whole = (do let v ← whole; standAt e.pos; holding [v] (truthy v)) := by intro _; rfl) : PT X e (tB t) := ⟨L2.pt_val h.un he⟩
theorem pw_or (ha : PT X a tA) (hb : PW X (.BoolOp .Or (b :: rest) pos) tB') : PW X (.BoolOp .Or (a :: b :: rest) pos) (tOr tA tB') := ⟨L2.pw_or ha.un hb.un⟩
theorem pw_or1 (ha : PT X a tA) : PW X (.BoolOp .Or [a] pos) tA := ⟨L2.pw_or1 ha.un⟩
theorem pw_and (ha : PT X a tA) (hb : PW X (.BoolOp .And (b :: rest) pos) tB') : PW X (.BoolOp .And (a :: b :: rest) pos) (tAnd tA tB') := ⟨L2.pw_and ha.un hb.un⟩
theorem pw_and1 (ha : PT X a tA) : PW X (.BoolOp .And [a] pos) tA := ⟨L2.pw_and1 ha.un⟩
theorem pa_nil : PA X [] tNil := ⟨L2.pa_nil⟩
theorem pa_cons (ha : PE X e te) (hr : PA X es t) (hs : starEach (e :: es) X.env = (false, eval e X.env) :: starEach es X.env := by rfl) : PA X (e :: es) (tCons te t) := ⟨L2.pa_cons ha.un hr.un hs⟩
theorem pa_int {i : Int} {j} (h : PA X es t) : PA X (.Constant (.int i) j p :: es) (tCons (tC (.int i)) t) := ⟨L2.pa_int h.un⟩
theorem pa_cst {k j} (he : PE X (.Constant k j p) te) (h : PA X es t) : PA X (.Constant k j p :: es) (tCons te t) := ⟨L2.pa_cons he.un h.un (by rfl)⟩
theorem pa_nm (he : PE X (.Name x p) te) (h : PA X es t) : PA X (.Name x p :: es) (tCons te t) := ⟨L2.pa_nm he.un h.un⟩
theorem pa_bin {op} (he : PE X (.BinOp a op b p) te) (h : PA X es t) : PA X (.BinOp a op b p :: es) (tCons te t) := ⟨L2.pa_bin he.un h.un⟩
theorem pa_sub (he : PE X (.Subscript a b p) te) (h : PA X es t) : PA X (.Subscript a b p :: es) (tCons te t) := ⟨L2.pa_sub he.un h.un⟩
theorem pa_call {as ks} (he : PE X (.Call a as ks p) te) (h : PA X es t) : PA X (.Call a as ks p :: es) (tCons te t) := ⟨L2.pa_call he.un h.un⟩
theorem pa_tup {as k} (he : PE X (.Tuple as k p) te) (h : PA X es t) : PA X (.Tuple as k p :: es) (tCons te t) := ⟨L2.pa_tup he.un h.un⟩
theorem pss_cons (h1 : PS X st u) (h2 : PSs X sts v) : PSs X (st :: sts) (tSeq u v) := ⟨L2.pss_cons h1.un h2.un⟩
theorem pss_one (h1 : PS X st u) : PSs X [st] u := ⟨L2.pss_one h1.un⟩
theorem pss_nil : PSs X [] tNext := ⟨L2.pss_nil⟩
theorem ps_set {i : Nat} (hN : X.N.Nodup) (hi : X.N[i]? = some x) (hx : Loc X.env.scope x) (he : PE X e te) (hs : swapsWith e (some (.Name x pos')) pos.line X.env = pure false := by rfl) (hf : X.fn x = true ∨ X.env.scope.names.lookup x = some .local := by first | exact .inl rfl | exact .inr rfl | assumption) :
    PS X (.Assign [.Name x pos'] e pos) (tAsg te (gName i)) := ⟨L2.ps_set hN hi hx he.un hs hf⟩
theorem ps_if {sa sb : List Stmt} (hc : PT X c tA) (ha : PSs X sa u) (hb : PSs X sb v) : PS X (.If c sa sb pos) (tIfS tA u v) := ⟨L2.ps_if hc.un ha.un hb.un⟩
theorem ps_for {wi : TI} {g : TG} (hp : PassesOwn (model X.prog X.w) X.A X.env X.xe) (hc : X.calm = true) (hi : PI X tg iter wi) (hg : PG X tg g) (hb : PSs X sts u)
    (hs : ∀ x, foldedSetIterable iter X.env x = pure x := by intro _; rfl) : PS X (.For tg iter sts [] pos) (tFor wi g u) := ⟨L2.ps_for hp hc hi.un hg.un hb.un hs⟩
theorem ps_ret (he : PE X e te) : PS X (.Return (some e) pos) (tRet te) := ⟨L2.ps_ret he.un⟩
theorem ps_expr (he : PE X e te) (hs : swapsWith e none pos.line X.env = pure false := by rfl) : PS X (.Expr e pos) (tDrop te) := ⟨L2.ps_expr he.un hs⟩
theorem ps_dput (hu : X.A.units + 1 < cLine) (ho : PE X o td) (hi : PE X e ty) (hv : PE X c tv) (hs : swapsWith c (some (.Subscript o e pos')) pos.line X.env = pure false) :
    PS X (.Assign [.Subscript o e pos'] c pos) (sDPut td ty tv) := ⟨L2.ps_dput hu ho.un hi.un hv.un hs⟩
theorem pg_name {i : Nat} (hN : X.N.Nodup) (hi : X.N[i]? = some x) (hx : Loc X.env.scope x) (hf : X.fn x = true ∨ X.env.scope.names.lookup x = some .local := by first | exact .inl rfl | exact .inr rfl | assumption) : PG X (.Name x pos) (gName i) := ⟨L2.pg_name hN hi hx hf⟩
theorem pg_tup {k : Nat} {t : TGs} {n : Nat} (hc : X.calm = true) (h : PGs X es t)
    (hn : (assignEach es X.env).length = n := by rfl) (hst : (assignEach es X.env).findIdx? (·.1) = none := by rfl) : PG X (.Tuple es k pos) (gTup X.K n t) := ⟨L2.pg_tup hc h.un hn hst⟩
theorem pgs_nil : PGs X [] gNil := ⟨L2.pgs_nil⟩
theorem pgs_cons {t : TG} {u : TGs} (h1 : PG X e t) (h2 : PGs X es u)
    (hs : (assignEach (e :: es) X.env).map (·.2) = assign e X.env :: (assignEach es X.env).map (·.2) := by rfl) : PGs X (e :: es) (gCons t u) := ⟨L2.pgs_cons h1.un h2.un hs⟩
theorem pi_list (hl : PE X l tl) : PI X tg l (iList X.K tl) := ⟨L2.pi_list hl.un⟩
theorem pi_tup (hl : PE X l tl) : PI X tg l (iTup X.K tl) := ⟨L2.pi_tup hl.un⟩
theorem pi_range1 {ta : TA} (hg : Gl X "range") (hm : X.mg "range" = none) (ha : PA X [a] ta) (hs : starEach [a] X.env = [(false, eval a X.env)] := by rfl) : PI X tg (.Call (.Name "range" p) [a] [] pos) (iRng1 ta) := ⟨L2.pi_range1 hg hm ha.un hs⟩
theorem po_none : PO X none tNoPart := ⟨L2.po_none⟩
theorem po_some (h : PE X e te) : PO X (some e) (tPart te) := ⟨L2.po_some h.un⟩
theorem pc_isN {j} (ha : PE X a ta) : PC X .Is a (.Constant .none j pos') (tIsN ta) := ⟨L2.pc_isN ha.un⟩
theorem pe_comp {osc : Scope} {N0 N' : List Str} {sel : List (Option Nat)} {scope : Scope} {elt : Expr} {ifs : List Expr} {wi : TI} {g : TG} (S : CScope osc N0 N' sel scope) (hcalm : X.calm = true) (hosc : X.env.scope = osc) (hN0 : X.N = N0)
    (hi : PI X tg iter wi) (hg : ∀ cl s₀ H₀ fp, PG (compCx X scope cl N' s₀ H₀ fp) tg g) (hif : ∀ cl s₀ H₀ fp, PF (compCx X scope cl N' s₀ H₀ fp) ifs tA) (he : ∀ cl s₀ H₀ fp, PE (compCx X scope cl N' s₀ H₀ fp) elt te)
    (hs : ∀ x, foldedSetIterable iter X.env x = pure x := by intro _; rfl) : PE X (.ListComp elt [⟨tg, iter, ifs, 0⟩] scope pos) (tComp sel wi g tA te) :=
  ⟨L2.pe_comp S hcalm hosc hN0 hi.un (fun cl s₀ H₀ fp => (hg cl s₀ H₀ fp).un) (fun cl s₀ H₀ fp => (hif cl s₀ H₀ fp).un) (fun cl s₀ H₀ fp => (he cl s₀ H₀ fp).un) hs⟩
theorem ps_setC {osc : Scope} {N0 N' : List Str} {sel : List (Option Nat)} {scope : Scope} {elt : Expr} {ifs : List Expr} {spos : Pos} {wi : TI} {g : TG} {i : Nat} (S : CScope osc N0 N' sel scope) (hcalm : X.calm = true) (hosc : X.env.scope = osc) (hN0 : X.N = N0)
    (hN : X.N.Nodup) (hiy : X.N[i]? = some x) (hy : X.env.scope.names.lookup x = some .local) (hi : PI X tg iter wi) (hg : ∀ cl s₀ H₀ fp, PG (compCx X scope cl N' s₀ H₀ fp) tg g) (hif : ∀ cl s₀ H₀ fp, PF (compCx X scope cl N' s₀ H₀ fp) ifs tA) (he : ∀ cl s₀ H₀ fp, PE (compCx X scope cl N' s₀ H₀ fp) elt te)
    (hsw : swapsWith (.ListComp elt [⟨tg, iter, ifs, 0⟩] scope pos) (some (.Name x pos')) spos.line X.env = pure true) (hs : ∀ x, foldedSetIterable iter X.env x = pure x := by intro _; rfl) :
    PS X (.Assign [.Name x pos'] (.ListComp elt [⟨tg, iter, ifs, 0⟩] scope pos) spos) (tAsg (tComp sel wi g tA te) (gName i)) :=
  ⟨L2.ps_setC S hcalm hosc hN0 hN hiy hy hi.un (fun cl s₀ H₀ fp => (hg cl s₀ H₀ fp).un) (fun cl s₀ H₀ fp => (hif cl s₀ H₀ fp).un) (fun cl s₀ H₀ fp => (he cl s₀ H₀ fp).un) hsw hs⟩
theorem pf_nil : PF X [] tNoIf := ⟨L2.pf_nil⟩
theorem pf_one (h : PT X c tA) : PF X [c] tA := ⟨L2.pf_one h.un⟩
theorem pc_din (hu : X.A.units + 1 < cLine) (hi : PE X e ty) (ho : PE X o td) : PC X .In e o (tDIn ty td) := ⟨L2.pc_din hu hi.un ho.un⟩
theorem pc_dnotin (hu : X.A.units + 1 < cLine) (hi : PE X e ty) (ho : PE X o td) : PC X .NotIn e o (tDNotIn ty td) := ⟨L2.pc_dnotin hu hi.un ho.un⟩
theorem pc_notN {j} (ha : PE X a ta) : PC X .IsNot a (.Constant .none j pos') (tNotN ta) := ⟨L2.pc_notN ha.un⟩
theorem pss_never : PSs X sts (fun _ _ _ => False) := ⟨fun _ _ _ _ _ _ h => h.elim⟩
end
section
variable {P : Program} {w : World} {K : PySem.W.Frag} {mg : Str → Option Value} {base : Heap}
/-- the rule for a def, over these readings -/
theorem ok {x qual : Str} {st : Stmt} {f : Addr} {fd : FuncData} {N ps : List Str} {k : Nat} {sp : Sp} (F : Fun K x qual st f fd) (S : FnScope N ps (defScope st)) (len : ∀ vs H Q E, sp vs H Q E → vs.length = ps.length)
    (hbody : ∀ (cdv : Value) (A : Around) (outer : List Env) (s : Shared) (H : Hp) (vs : List V) (Q : VK) (E : XK), Room k (A.deeper (envOfC qual (defScope st) s.heap.objs.size f cdv)) → sp vs H Q E →
      ∃ t, PSs (cxOf CX0 P w K mg base N qual (defScope st) f cdv A outer s H E).nox (defBody st) t ∧ t { nx := fun _ H' => Q .non H', rt := Q } (start N vs) H) : FnOk P w K mg base CX0 (k + 1) f fd ps sp :=
  F.ok S len fun cdv A outer s H vs Q E hr h => by
    obtain ⟨t, h1, h2⟩ := hbody cdv A outer s H vs Q E hr h
    exact ⟨t, h1.un, h2⟩
end
end R

set_option autoImplicit false
set_option maxRecDepth 100000
set_option linter.all false
set_option Elab.async false
namespace R
open PySem PySem.Spec PyProof.Rows L2
section
variable {X : Cx} {a b c e o l tg iter i g : Expr} {es rest : List Expr} {ta tb tc te td ty tv tl to tx ti : TE} {t : TA} {pos pos' p apos cpos : Pos} {x f : Str} {st : Stmt} {sts : List Stmt}
theorem pe_dget2 (hu : X.A.units + 1 < cLine) (ho : PE X o td) (he : PE X e ty) (hf : PE X g tx) (m : M2 X o "get" apos e g cpos) : PE X (.Call (.Attribute o "get" apos) [e, g] [] cpos) (tDGet2 td ty tx) := ⟨L2.pe_dget2 hu ho.un he.un hf.un m⟩
theorem pe_dpop1 (ho : PE X o td) (he : PE X e ty) (m : M1 X o "pop" apos e cpos) : PE X (.Call (.Attribute o "pop" apos) [e] [] cpos) (tDPop1 td ty) := ⟨L2.pe_dpop1 ho.un he.un m⟩
theorem pe_un {op : UnaryOp} {r : V → Hp → VK → Prop} (ho : UnR X (unaryOp op) r) (ha : PE X a ta) : PE X (.UnaryOp op a pos) (tUn r ta) := ⟨L2.pe_un ho ha.un⟩
theorem pe_fld (he : PE X e ta) (hb : attributeBase e f X.env (eval e X.env) = eval e X.env := by rfl) : PE X (.Attribute e f pos) (tFld X.K ta f) := ⟨L2.pe_fld he.un hb⟩
theorem ps_fld (ha : PE X o ta) (hv : PE X c tv) (hs : swapsWith c (some (.Attribute o f pos')) pos.line X.env = pure false := by rfl) : PS X (.Assign [.Attribute o f pos'] c pos) (sFld X.K ta tv f) := ⟨L2.ps_fld ha.un hv.un hs⟩
theorem pi_range2 (hg : Gl X "range") (hm : X.mg "range" = none) (ha : PA X [a, b] t) (hs : starEach [a, b] X.env = [(false, eval a X.env), (false, eval b X.env)] := by rfl) (hs2 : starEach [b] X.env = [(false, eval b X.env)] := by rfl) :
    PI X tg (.Call (.Name "range" p) [a, b] [] pos) (iRng2 t) := ⟨L2.pi_range2 hg hm ha.un hs hs2⟩
end
end R
namespace R
open PySem PySem.Spec PyProof.Rows L2
section
variable {X : Cx} {CX : CXT} {k : Nat} {f C : Addr} {fd : FuncData} {ps : List Str} {sp : Sp} {dvs : List V} {ds : List Value} {E : XK} {x m : Str} {p pos apos : Pos} {e o a : Expr} {es : List Expr} {ta te : TE} {t : TA} {body : List Stmt} {ts : TS}
theorem pa_att {g : Str} (he : PE X (.Attribute a g p) te) (h : PA X es t) : PA X (.Attribute a g p :: es) (tCons te t) := ⟨L2.pa_cons he.un h.un (by rfl)⟩
theorem pe_meth {pl : Sem Bool} (he : PE X o ta) (c : Cls X.K C) (hm : Meth X.K C m f) (F : FnOk X.prog X.w X.K X.mg X.base CX k f fd ps sp) (hr : Room k X.A) (hb : Binds X.K fd ps ds) (hd : Vals dvs ds) (hx : Passes CX X E) (ha : PA X (e :: es) t)
    (hst : starEach (e :: es) X.env = (false, eval e X.env) :: starEach es X.env := by rfl) (hpl : (backTo pos (starEach es X.env)).any (·.1) = false := by rfl)
    (ht : eval (.Call (.Attribute o m apos) (e :: es) [] pos) X.env = (do
      let ov ← eval o X.env
      standAt apos.atName
      let (f, first) ← holding [ov] (getMethod ov m pl)
      callWith pos f first (backTo pos (starEach (e :: es) X.env)) (backToKw pos (keywordEach [] X.env))) := by rfl) :
    PE X (.Call (.Attribute o m apos) (e :: es) [] pos) (tMeth C m sp dvs E ta t) := ⟨L2.pe_meth he.un c hm F hr hb hd hx ha.un hst hpl ht⟩
theorem pe_meth0 {pl : Sem Bool} (he : PE X o ta) (c : Cls X.K C) (hm : Meth X.K C m f) (F : FnOk X.prog X.w X.K X.mg X.base CX k f fd ps sp) (hr : Room k X.A) (hb : Binds X.K fd ps ds) (hd : Vals dvs ds) (hx : Passes CX X E)
    (ht : eval (.Call (.Attribute o m apos) [] [] pos) X.env = (do
      let ov ← eval o X.env
      standAt apos.atName
      let (f, first) ← holding [ov] (getMethod ov m pl)
      callWith pos f first (backTo pos (starEach [] X.env)) (backToKw pos (keywordEach [] X.env))) := by rfl) :
    PE X (.Call (.Attribute o m apos) [] [] pos) (tMeth C m sp dvs E ta tNil) := ⟨L2.pe_meth0 he.un c hm F hr hb hd hx ht⟩
theorem pe_make (M : Mk X.K C f) (F : FnOk X.prog X.w X.K X.mg X.base CX k f fd ps sp) (hr : Room (k + 1) X.A) (hg : Gl X x) (hm : X.mg x = some (.ref C)) (hb : Binds X.K fd ps ds) (hd : Vals dvs ds) (hx : Passes CX X E)
    (ha : PA X (e :: es) t) (hdb : (x == ("__debug__" : Str)) = false := by decide) (he : starEach (e :: es) X.env = (false, eval e X.env) :: starEach es X.env := by rfl) (hpl : (backTo pos (starEach es X.env)).any (·.1) = false := by rfl) :
    PE X (.Call (.Name x p) (e :: es) [] pos) (tMake C sp dvs E t) := ⟨L2.pe_make M F hr hg hm hb hd hx ha.un hdb he hpl⟩
/-- try: what raises nothing -/
theorem ps_try {h0 : ExceptHandler} {hs : List ExceptHandler} (hb : PSs X.nox body ts) : PS X (.Try body (h0 :: hs) [] [] pos) ts := ⟨fun pins s σ H D I hw => by
  refine wpAny_Try_except (wpAny_mono (hb.un pins s σ H D (I.wish _) hw) (fun f s1 q => ?_) fun _ _ z => False.elim z)
  have q' := q.unwish
  cases f with
  | next =>
    obtain ⟨σ', H', I', q2⟩ := q'
    exact (L2.pss_nil (X := X)) pins s1 σ' H' D I' q2
  | _ => exact q'⟩
end
end R
namespace L2
open PySem PySem.Spec PyProof.Rows
section
variable {X : Cx}
/-- l.remove(i), l a list of ints that has i -/
def rRemove : V → List V → Hp → VK → Prop := fun x vs H Q => ∃ (l : Addr) (ns : List Int) (i : Int), x = .ref l ∧ vs = [.int i] ∧ H l = some (.lst (ns.map V.int)) ∧ i ∈ ns ∧ Q .non (upd H l (.lst ((ns.erase i).map V.int)))
theorem idx_ne {i : Int} : ∀ {ns : List Int} {m : Nat}, m < ns.idxOf i → ∀ hm : m < ns.length, ns[m] ≠ i
  | [], m, _, hm => absurd hm (Nat.not_lt_zero _)
  | a :: r, m, h, hm => by
    rw [List.idxOf_cons] at h
    by_cases e : a = i
    · subst e
      simp at h
    · have e' : (a == i) = false := by simpa using e
      rw [e'] at h
      cases m with
      | zero => exact e
      | succ k => exact idx_ne (ns := r) (m := k) (by simpa using h) (by simpa using hm)
theorem erase_map (g : Int → V) : ∀ (ns : List Int) (k : Nat), (ns.map g).eraseIdx k = (ns.eraseIdx k).map g
  | [], _ => rfl
  | _ :: _, 0 => rfl
  | a :: r, k + 1 => by
    show g a :: (r.map g).eraseIdx k = g a :: (r.eraseIdx k).map g
    rw [erase_map g r k]
def isI (i : Int) : Value → Bool
  | .int a _ => a == i
  | _ => false
theorem mt_remove : MtM X "list.remove" rRemove := by
  intro pins s σ H x vs v us Q I rx rv h
  obtain ⟨l, ns, i, rfl, rfl, hH, hi, q⟩ := h
  cases rx
  obtain ⟨u, rfl, ru⟩ := rv.one
  obtain ⟨t, rfl⟩ := ru
  obtain ⟨z, its, n, r, hl, e⟩ := I.lstM hH
  rw [List.length_map] at z hl
  have hat : ∀ (k : Nat) (hk : k < ns.length), ∃ t', its[k]? = some (.int ns[k] t') := fun k hk => by
    obtain ⟨u, hu, t', rfl⟩ := r.get (show (ns.map V.int)[k]? = some (V.int ns[k]) by rw [List.getElem?_map, List.getElem?_eq_getElem hk]; rfl)
    exact ⟨t', hu⟩
  have hj : ns.idxOf i < ns.length := List.idxOf_lt_length_of_mem hi
  have isz : its.toArray.size = ns.length := by rw [List.size_toArray, hl]
  have hget : ∀ (k : Nat) (hk : k < its.toArray.size), ∃ t', its.toArray[k] = .int (ns[k]'(by omega)) t' := fun k hk => by
    obtain ⟨t', h'⟩ := hat k (by omega)
    refine ⟨t', ?_⟩
    have := List.getElem?_eq_some_iff.mp h'
    simpa using this.2
  refine call_meets F.slot_list_remove ⟨_, e, rfl⟩ F.entry_list_remove (F.args_list_remove_2 _ _)
    (MeetsSeq.list_remove l its.toArray n (.int i t) (isI i) (fun y hy => ?_) (ns.idxOf i) (by omega) ?_ (fun m hm hlt => ?_) (by omega)) ⟨e, ?_⟩
  · obtain ⟨k, hk, rfl⟩ := Array.getElem_of_mem hy
    obtain ⟨t', h'⟩ := hget k hk
    rw [h']
    exact MeetsSeq.EqGives.int _ _ _ _
  · obtain ⟨t', h'⟩ := hget (ns.idxOf i) (by omega)
    rw [h']
    show (ns[ns.idxOf i] == i) = true
    rw [List.getElem_idxOf hj]
    simp
  · obtain ⟨t', h'⟩ := hget m hm
    rw [h']
    show (ns[m]'(by omega) == i) = false
    simpa using idx_ne hlt (by omega)
  · have e1 : (ns.map V.int).eraseIdx (ns.idxOf i) = (ns.erase i).map V.int := by
      rw [List.erase_eq_eraseIdx_of_idxOf rfl, erase_map]
    refine ⟨.non, _, I.lset (its' := its.eraseIdx (ns.idxOf i)) hH e ?_ (e1 ▸ r.eraseIdx (ns.idxOf i)) ?_, rfl, q⟩
    · show its.toArray.eraseIdxIfInBounds (ns.idxOf i) = (its.eraseIdx (ns.idxOf i)).toArray
      rw [List.eraseIdxIfInBounds_toArray]
    · rw [List.length_map]
      have := List.length_erase_le (a := i) (l := ns)
      omega
/-! ### d == {}, d != {} -/
end
end L2
namespace R
open PySem PySem.Spec PyProof.Rows L2
section
variable {X : Cx} {e o i : Expr} {te to ti : TE} {p p2 pos pos2 : Pos}
end
end R

set_option autoImplicit false
set_option maxRecDepth 100000
set_option linter.all false
set_option Elab.async false
namespace R
open PySem PySem.Spec PyProof.Rows L2
section
variable {X : Cx} {k1 k2 v1 v2 : Expr} {tk1 tk2 tv1 tv2 : TE} {pos : Pos}
theorem pe_sortItems {o : Expr} {to : TE} {p apos cpos : Pos} (hcalm : X.calm = true) (hg : Gl X "sorted") (hm : X.mg "sorted" = none) (ho : PE X o to)
    (hbase : attributeBase o "items" X.env (eval o X.env) = eval o X.env := by rfl) (hline : (apos.endLine == cpos.line) = true := by rfl)
    (s1 : starEach [.Call (.Attribute o "items" apos) [] [] cpos] X.env = [(false, eval (.Call (.Attribute o "items" apos) [] [] cpos) X.env)] := by rfl) :
    PE X (.Call (.Name "sorted" p) [.Call (.Attribute o "items" apos) [] [] cpos] [] pos) (tSortI to) := ⟨L2.pe_sortItems hcalm hg hm ho.un hbase hline s1⟩
/-- what is left, to be read later -/
def tAny (X : Cx) (sts : List Stmt) : TS := fun D σ H => ∃ t, PSs X sts t ∧ t D σ H
theorem pss_any {X : Cx} {sts : List Stmt} : PSs X sts (tAny X sts) := ⟨fun pins s σ H D I h => by
  obtain ⟨t, p, q⟩ := h
  exact p.un pins s σ H D I q⟩
end
end R

set_option autoImplicit false
set_option maxRecDepth 100000
set_option linter.all false
set_option Elab.async false
namespace R
open PySem PySem.Spec PyProof.Rows L2
structure PH (X : Cx) (hs : List ExceptHandler) (th : Value → TS) : Prop where
  un : L2.PH X hs th
section
variable {X : Cx} {E : XK} {C C' : Addr} {x : Str} {np cpos pos : Pos} {e : Expr} {es : List Expr} {t : TA} {b₀ : Stmt} {suite body : List Stmt} {rest hs : List ExceptHandler} {h0 : ExceptHandler} {ts : TS} {tr th : Value → TS} {tb : XK → TS}
theorem ps_raise (hX : Raises X E) (hcalm : X.calm = true) (hg : Gl X x) (hm : X.mg x = some (.ref C)) (c : ExcC X.K C) (ha : PA X (e :: es) t) (hdb : (x == ("__debug__" : Str)) = false := by decide)
    (he : starEach (e :: es) X.env = (false, eval e X.env) :: starEach es X.env := by rfl) (hpl : (backTo cpos (starEach es X.env)).any (·.1) = false := by rfl) :
    PS X (.Raise (some (.Call (.Name x np) (e :: es) [] cpos)) none pos) (tRaise C E t) := ⟨L2.ps_raise hX hcalm hg hm c ha.un hdb he hpl⟩
theorem ph_nil : PH X [] tH0 := ⟨L2.ph_nil⟩
theorem ph_cons (hg : Gl X x) (hm : X.mg x = some (.ref C')) (c' : ExcC X.K C') (hs : ∀ v, PSs (X.hd v) (b₀ :: suite) ts) (hr : PH X rest tr) (hdb : (x == ("__debug__" : Str)) = false := by decide) :
    PH X (.ExceptHandler (some (.Name x np)) none (b₀ :: suite) pos :: rest) (tH X.K C' ts tr) := ⟨L2.ph_cons hg hm c' (fun v => (hs v).un) hr.un hdb⟩
theorem ps_tryX (hst : X.stack = X.env :: X.outer) (hf : X.env.frame = some X.env.locals) (hb : ∀ (E1 : XK) (xe : Value → Shared → Prop) (ps : List (Addr × Obj)), Passes (CX1 X.prog X.w X.K) (X.tr xe ps) E1 → PSs (X.tr xe ps) body (tb E1)) (hh : PH X (h0 :: hs) th) :
    PS X (.Try body (h0 :: hs) [] [] pos) (tTryX tb th) := ⟨L2.ps_tryX hst hf (fun E1 xe ps hp => (hb E1 xe ps hp).un) hh.un⟩
theorem ps_par {i j : Nat} {y : Str} {a b : Expr} {ta : TA} {px py pt : Pos} {kt k2 pt2} (hc : X.calm = true) (hN : X.N.Nodup) (hi : X.N[i]? = some x) (hj : X.N[j]? = some y) (hij : i ≠ j)
    (hx : X.env.scope.names.lookup x = some .local) (hy : X.env.scope.names.lookup y = some .local) (ha : PA X [a, b] ta)
    (hw : swappedStores [.Tuple [.Name x px, .Name y py] kt pt] (.Tuple [a, b] k2 pt2) X.env = pure (some [x, y]))
    (hs : swapsWithSole [.Tuple [.Name x px, .Name y py] kt pt] (.Tuple [a, b] k2 pt2) pos.line X.env = pure false := by rfl) :
    PS X (.Assign [.Tuple [.Name x px, .Name y py] kt pt] (.Tuple [a, b] k2 pt2) pos) (tPar i j ta) := ⟨L2.ps_par hc hN hi hj hij hx hy ha.un hw hs⟩
theorem pe_disp4 {k1 k2 k3 k4 v1 v2 v3 v4 : Expr} {tk1 tk2 tk3 tk4 tv1 tv2 tv3 tv4 : TE} (h1 : PE X k1 tk1) (g1 : PE X v1 tv1) (h2 : PE X k2 tk2) (g2 : PE X v2 tv2) (h3 : PE X k3 tk3) (g3 : PE X v3 tv3) (h4 : PE X k4 tk4) (g4 : PE X v4 tv4) :
    PE X (.Dict [some k1, some k2, some k3, some k4] [v1, v2, v3, v4] pos) (tDisp [(tk1, tv1), (tk2, tv2), (tk3, tv3), (tk4, tv4)]) :=
  ⟨L2.pe_disp (pps_cons h1.un g1.un (pps_cons h2.un g2.un (pps_cons h3.un g3.un (pps_cons h4.un g4.un pps_nil)))) rfl rfl (by simp) (by show 4 ≤ 15; decide)⟩
end
section
variable {P : Program} {w : World} {K : PySem.W.Frag} {mg : Str → Option Value} {base : Heap}
/-- a def that may raise -/
theorem okX {x qual : Str} {st : Stmt} {f : Addr} {fd : FuncData} {N ps : List Str} {k : Nat} {sp : Sp} (F : Fun K x qual st f fd) (S : FnScope N ps (defScope st)) (len : ∀ vs H Q E, sp vs H Q E → vs.length = ps.length)
    (hbody : ∀ (cdv : Value) (A : Around) (outer : List Env) (s : Shared) (H : Hp) (vs : List V) (Q : VK) (E : XK), Room k (A.deeper (envOfC qual (defScope st) s.heap.objs.size f cdv)) → sp vs H Q E →
      ∃ t, PSs (cxOf (CX1 P w K) P w K mg base N qual (defScope st) f cdv A outer s H E) (defBody st) t ∧ t { nx := fun _ H' => Q .non H', rt := Q } (start N vs) H) : FnOk P w K mg base (CX1 P w K) (k + 1) f fd ps sp := by
  obtain ⟨oc, od, kV, doc, pm, an, cdv, ct, osl, rfl, lk, hcd⟩ := F.ex
  refine fn_of lk hcd S len fun A outer s H vs Q E hr hsp => ?_
  obtain ⟨t, h1, h2⟩ := hbody cdv A outer s H vs Q E hr hsp
  exact ⟨t, h1.un, h2⟩
end
end R

set_option autoImplicit false
set_option maxRecDepth 100000
set_option linter.all false
set_option Elab.async false
set_option maxHeartbeats 8000000
namespace RK
open PySem L2
section
variable {P : Program} {w : World} {K : PySem.W.Frag} {mg : Str → Option Value} {base : Heap} {f : Addr} {fd : FuncData}
/-- a def of the text, its name and how its arguments bind -/
structure Fn (K : PySem.W.Frag) (mg : Str → Option Value) (x : Str) (ps : List Str) (st : Stmt) (f : Addr) (fd : FuncData) : Prop where
  F : Fun K x x st f fd
  mgf : mg x = some (.ref f)
  b : Binds K fd ps []
/-- ints that may be multiplied with one another -/
def big (n : Int) : Prop := n.natAbs < 2 ^ 400
theorem natAbs_mul_lt {a b : Int} {i j : Nat} (h1 : a.natAbs < 2 ^ i) (h2 : b.natAbs < 2 ^ j) : (a * b).natAbs < 2 ^ (i + j) := by
  rw [Int.natAbs_mul, Nat.pow_add]
  exact Nat.mul_lt_mul'' h1 h2
theorem mulB {a b : Int} (h1 : a.natAbs < 2 ^ 1000) (h2 : b.natAbs < 2 ^ 1000) : CMulB a b := ⟨h1, h2⟩
theorem big_mono {a : Int} {i : Nat} (h : a.natAbs < 2 ^ i) (hi : i ≤ 1000) : a.natAbs < 2 ^ 1000 := Nat.lt_of_lt_of_le h (Nat.pow_le_pow_right (by decide) hi)
def spPlace : Sp := fun vs H Q _ => ∃ size n, vs = [.int size, .int n] ∧ 0 < size ∧ big n ∧ Q (.int (RD.place size n)) H
def spPosts : Sp := fun vs H Q _ => ∃ (size k : Int) (share : Nat), vs = [.int size, .int k, .int share] ∧ 0 < size ∧ share ≤ 1000 ∧ ∀ p, H p = none → Q (.ref p) (upd H p (.lst ((RD.posts size k share).map V.int)))
def compScope (e : Expr) : Scope := match e with
  | .ListComp _ _ sc _ => sc
  | _ => default
def retE (s : Stmt) (i : Nat) : Expr := match (defBody s).getD i (.Pass ⟨0, 0, 0, 0⟩) with
  | .Return (some e) _ => e
  | .Assign _ e _ => e
  | _ => .Constant .none 0 ⟨0, 0, 0, 0⟩
theorem posts_snoc (size k : Int) (i : Nat) : RD.posts size k (i + 1) = RD.posts size k i ++ [RD.post size k i] := by
  unfold RD.posts
  rw [List.range_succ, List.map_append]
  rfl
def spSteps : Sp := fun vs H Q _ => ∃ size a b, vs = [.int size, .int a, .int b] ∧ 0 < size ∧ Q (.int (RD.stp size a b)) H
def spRoom : Sp := fun vs H Q _ => ∃ each share : Int, vs = [.int each, .int share] ∧ (-(2 ^ 64) < share ∧ share < 2 ^ 64) ∧ Q (.int (each * share)) H
def Cnt (ns : List Int) (place : Int) (c : Nat) : Prop := c ≤ ns.length ∧ (∀ (i : Nat) x, ns[i]? = some x → i < c → x < place) ∧ (∀ (i : Nat) x, ns[i]? = some x → c ≤ i → place ≤ x)
def spCount (K : PySem.W.Frag) : Sp := fun vs H Q _ => ∃ (o : Addr) (ns : List Int) (place : Int), vs = [.ref o, .int place] ∧ SqL K H o (ns.map V.int) ∧ ns.Pairwise (· ≤ ·) ∧ ns.length ≤ 1000 ∧ ∀ c : Nat, Cnt ns place c → Q (.int c) H
theorem le_at {ns : List Int} (h : ns.Pairwise (· ≤ ·)) {i j : Nat} {a b : Int} (ha : ns[i]? = some a) (hb : ns[j]? = some b) (hij : i ≤ j) : a ≤ b := by
  obtain ⟨hi, ea⟩ := List.getElem?_eq_some_iff.mp ha
  obtain ⟨hj, eb⟩ := List.getElem?_eq_some_iff.mp hb
  rcases Nat.lt_or_ge i j with hlt | hge
  · have := List.pairwise_iff_getElem.mp h i j hi hj hlt
    rw [ea, eb] at this
    exact this
  · have e : i = j := by omega
    subst e
    rw [ea] at eb
    omega
def spAmong (K : PySem.W.Frag) : Sp := fun vs H Q _ => ∃ (size place : Int) (o : Addr) (ns : List Int), vs = [.int size, .int place, .ref o] ∧ 0 < size ∧ SqL K H o (ns.map V.int) ∧ ns.Pairwise (· ≤ ·) ∧ ns.length ≤ 1000 ∧ ns ≠ [] ∧
  ∀ (c : Nat) (v : Int), Cnt ns place c → ns[c % ns.length]? = some v → Q (.int (RD.stp size place v)) H
def Tups (H : Hp) (bs : List Addr) (ds : List (List Int)) : Prop := Paired (fun b d => H b = some (.tup (d.map V.int))) bs ds
theorem Tups.same {H H' : Hp} {bs : List Addr} {ds : List (List Int)} (t : Tups H bs ds) (s : Same H H') : Tups H' bs ds := Paired.mapP t fun _ _ e => s _ _ e
theorem Tups.snoc {H : Hp} {bs : List Addr} {ds : List (List Int)} {b : Addr} {d : List Int} (t : Tups H bs ds) (h : H b = some (.tup (d.map V.int))) : Tups H (bs ++ [b]) (ds ++ [d]) := Paired.snoc t h
theorem Tups.length {H : Hp} {bs : List Addr} {ds : List (List Int)} (t : Tups H bs ds) : bs.length = ds.length := Paired.length t
def intOf : V → Int
  | .int i => i
  | _ => 0
/-- what stands at an address, as ints -/
def dataOf (H : Hp) (b : Addr) : List Int := match H b with
  | some (.tup xs) => xs.map intOf
  | _ => []
theorem dataOf_tup {H : Hp} {b : Addr} {d : List Int} (h : H b = some (.tup (d.map V.int))) : dataOf H b = d := by
  unfold dataOf
  rw [h]
  dsimp only
  rw [List.map_map]
  exact List.map_id _
theorem Tups.map {H : Hp} : ∀ {bs : List Addr} {ds : List (List Int)}, Tups H bs ds → bs.map (dataOf H) = ds
  | _, _, .nil => rfl
  | _, _, .cons h t => by
    rw [List.map_cons, dataOf_tup h, Tups.map t]
theorem Tups.mem {H : Hp} : ∀ {bs : List Addr} {ds : List (List Int)}, Tups H bs ds → ∀ b ∈ bs, H b = some (.tup ((dataOf H b).map V.int)) ∧ dataOf H b ∈ ds
  | _, _, .nil, b, h => by cases h
  | _, _, .cons h t, b, hb => by
    rcases List.mem_cons.mp hb with rfl | hb
    · rw [dataOf_tup h]
      exact ⟨h, List.mem_cons_self⟩
    · obtain ⟨a, c⟩ := Tups.mem t b hb
      exact ⟨a, List.mem_cons_of_mem _ c⟩
theorem Tups.of {H : Hp} : ∀ {bs : List Addr}, (∀ b ∈ bs, H b = some (.tup ((dataOf H b).map V.int))) → Tups H bs (bs.map (dataOf H))
  | [], _ => .nil
  | b :: bs, h => .cons (h b List.mem_cons_self) (Tups.of fun c hc => h c (List.mem_cons_of_mem _ hc))
theorem Tups.at {H : Hp} {bs : List Addr} {ds : List (List Int)} {i : Nat} {b : Addr} (t : Tups H bs ds) (h : bs[i]? = some b) : ∃ d, ds[i]? = some d ∧ H b = some (.tup (d.map V.int)) := by
  unfold Tups at t
  induction t generalizing i with
  | nil => simp at h
  | @cons x y l1 l2 r _ ih =>
    cases i with
    | zero =>
      simp at h
      subst h
      exact ⟨y, rfl, r⟩
    | succ j =>
      obtain ⟨d, h1, h2⟩ := ih (i := j) (by simpa using h)
      exact ⟨d, by simpa using h1, h2⟩
def keepD (kvs : List (Int × Nat)) : List (Key × V) := kvs.map fun p => ((Sum.inl p.1 : Key), V.int (p.2 : Int))
def rowD (size : Int) (p : Int × Nat) (names : List Int) : List (List Int) := names.map fun n => [RD.way size n p.1 p.2, n, p.1]
def pairsD (size : Int) (kvs : List (Int × Nat)) (names : List Int) : List (List Int) := kvs.flatMap fun p => rowD size p names
/-- so few that fewer than 64 pairs come of them -/
abbrev few (k n : Nat) : Prop := k ≤ 14 ∧ (k ≤ 5 ∧ n ≤ 12 ∨ k ≤ 4 ∧ n ≤ 15 ∨ k + n ≤ 14)
theorem few_sq : ∀ k : Nat, k < 15 → k * (14 - k) < 64 := by decide
theorem few_mul {k n : Nat} (h : few k n) : k * n < 64 := by
  rcases h with ⟨h1, ⟨h2, h3⟩ | ⟨h2, h3⟩ | h2⟩
  · have := Nat.mul_le_mul h2 h3
    omega
  · have := Nat.mul_le_mul h2 h3
    omega
  · have h4 := Nat.mul_le_mul_left k (show n ≤ 14 - k by omega)
    have h5 := few_sq k (by omega)
    omega
theorem few_le {k n k' n' : Nat} (h : few k n) (hk : k' ≤ k) (hn : n' ≤ n) : few k' n' := by
  obtain ⟨h1, h2⟩ := h
  exact ⟨by omega, by omega⟩
def spPairs (K : PySem.W.Frag) : Sp := fun vs H Q _ => ∃ (size : Int) (d l : Addr) (kvs : List (Int × Nat)) (names : List Int), vs = [.int size, .ref d, .ref l] ∧ 0 < size ∧ H d = some (.dK (keepD kvs)) ∧ SqL K H l (names.map V.int) ∧
  (∀ n ∈ names, big n) ∧ (∀ p ∈ kvs, 1 ≤ p.2 ∧ p.2 ≤ 40) ∧ kvs.length ≤ 1000 ∧ few kvs.length names.length ∧
  ∀ (H' : Hp) (p : Addr) (bs : List Addr) (ds : List (List Int)), Same H H' → H p = none → H' p = some (.lst (bs.map V.ref)) → (∀ b ∈ bs, H b = none) → Tups H' bs ds → ds.Perm (pairsD size kvs names) → ds.Pairwise lexLe → Q (.ref p) H'
theorem take_snoc {α : Type} {l : List α} {i : Nat} {x : α} (h : l[i]? = some x) : l.take (i + 1) = l.take i ++ [x] := by
  rw [List.take_add_one, h]
  rfl
theorem big_size {n : Nat} (h : n ≤ 1000000) : n < sizeLine := Nat.lt_of_le_of_lt h (by decide)
/-- all but d stands as it stood -/
def SameX (d : Addr) (H H' : Hp) : Prop := ∀ b o, b ≠ d → H b = some o → H' b = some o
theorem SameX.trans {d : Addr} {H H1 H2 : Hp} (a : SameX d H H1) (b : SameX d H1 H2) : SameX d H H2 := fun c o n h => b c o n (a c o n h)
theorem SameX.upd {d : Addr} {H H1 : Hp} {p : Addr} {o : HO} (a : SameX d H H1) (h : H1 p = none) : SameX d H (upd H1 p o) := fun b u n e => by
  have := a b u n e
  rw [upd_ne (ne_of_none this h)]
  exact this
theorem SameX.set {d : Addr} {H H1 : Hp} {p : Addr} {o : HO} (a : SameX d H H1) (h : H p = none) : SameX d H (L2.upd H1 p o) := fun b u n e => by
  rw [upd_ne (ne_of_none e h)]
  exact a b u n e
theorem SameX.of {d : Addr} {H H1 : Hp} (a : Same H H1) : SameX d H H1 := fun b o _ e => a b o e
theorem same_set {H H1 : Hp} {p : Addr} {o : HO} (a : Same H H1) (h : H p = none) : Same H (L2.upd H1 p o) := fun b u e => by
  rw [upd_ne (ne_of_none e h)]
  exact a b u e
theorem Tups.upd {H : Hp} {bs : List Addr} {ds : List (List Int)} {p : Addr} {o : HO} (t : Tups H bs ds) (h : ∀ xs, H p ≠ some (.tup xs)) : Tups (L2.upd H p o) bs ds := Paired.mapP t fun b d e => by
  rw [upd_ne (fun z => h _ (by rw [← z]; exact e))]
  exact e
theorem Tups.fresh {H : Hp} {bs : List Addr} {ds : List (List Int)} {p : Addr} {o : HO} (t : Tups H bs ds) (h : H p = none) : Tups (L2.upd H p o) bs ds := t.upd fun xs e => by rw [h] at e; cases e
theorem pairsD_snoc {size : Int} {kvs : List (Int × Nat)} {names : List Int} {i : Nat} {p : Int × Nat} (h : kvs[i]? = some p) : pairsD size (kvs.take (i + 1)) names = pairsD size (kvs.take i) names ++ rowD size p names := by
  unfold pairsD
  rw [take_snoc h, List.flatMap_append]
  simp
theorem pairsD_len {size : Int} {kvs : List (Int × Nat)} {names : List Int} : (pairsD size kvs names).length = kvs.length * names.length := by
  unfold pairsD
  rw [List.length_flatMap]
  induction kvs with
  | nil => simp
  | cons p r ih =>
    rw [List.map_cons, List.sum_cons, ih, List.length_cons]
    have : (rowD size p names).length = names.length := by simp [rowD]
    rw [this, Nat.succ_mul, Nat.add_comm]
/-- the built-in names that the text leaves as they are -/
structure Blt (mg : Str → Option Value) : Prop where
  len : mg "len" = none
  range : mg "range" = none
  sorted : mg "sorted" = none
  isinstance : mg "isinstance" = none
  int : mg "int" = none
  bool : mg "bool" = none
  str : mg "str" = none
  dict : mg "dict" = none
  list : mg "list" = none
  tuple : mg "tuple" = none
def spWhole : Sp := fun vs H Q _ => ∃ i, vs = [.int i] ∧ Q (.bl true) H
def spAt (K : PySem.W.Frag) : Sp := fun vs H Q _ => ∃ (a : Addr) (ns : List Int) (j : Nat), vs = [.ref a, .int j] ∧ SqL K H a (ns.map V.int) ∧ Q (.int (ns.getD j 0)) H
def spFrom : Sp := fun vs H Q _ => ∃ (size n k : Int) (share : Nat), vs = [.int size, .int n, .int k, .int share] ∧ 0 < size ∧ big n ∧ 1 ≤ share ∧ share ≤ 1000 ∧ Q (.int (RD.way size n k share)) H
def bestV (size n k : Int) (i : Nat) : V := if i = 0 then .non else .int (RD.way size n k i)
theorem way_snoc (size n k : Int) (i : Nat) (hi : i ≠ 0) : RD.way size n k (i + 1) = if RD.stp size (RD.place size n) (RD.post size k i) < RD.way size n k i then RD.stp size (RD.place size n) (RD.post size k i) else RD.way size n k i := by
  unfold RD.way
  rw [posts_snoc, List.map_append]
  refine RD.least_snoc ?_ _
  intro e
  have := congrArg List.length e
  rw [List.length_map, RD.posts_length] at this
  exact hi this
theorem best_step {size n k : Int} {i : Nat} {v : Int} {a0 a1 a2 a3 a4 a6 a7 : Option V} {D : Ends} {H : Hp}
    (hv : v = RD.stp size (RD.place size n) (RD.post size k i)) (hk : D.nx [a0, a1, a2, a3, a4, some (bestV size n k (i + 1)), a6, a7, some (.int v)] H) :
    (tIfS (tOr (tB (tIsN (tVar 5))) (tTest (tOp (rI0 fun i j => V.bl (decide (i < j))) (tVar 8) (tVar 5)))) (tAsg (tVar 8) (gName 5)) tNext) D [a0, a1, a2, a3, a4, some (bestV size n k i), a6, a7, some (.int v)] H := by
  by_cases h0 : i = 0
  · subst h0
    have e : bestV size n k (0 + 1) = .int v := by
      unfold bestV
      rw [if_neg (by omega), hv]
      rfl
    rw [e] at hk
    exact ⟨_, rfl, true, rfl, iteT (iteT ⟨_, rfl, hk⟩)⟩
  · have e : bestV size n k i = .int (RD.way size n k i) := by unfold bestV; rw [if_neg h0]
    have e2 : bestV size n k (i + 1) = .int (if v < RD.way size n k i then v else RD.way size n k i) := by
      unfold bestV
      rw [if_neg (by omega), way_snoc _ _ _ _ h0, hv]
    rw [e2] at hk
    rw [e]
    refine ⟨_, rfl, false, rfl, iteF ⟨_, rfl, _, rfl, _, _, rfl, rfl, _, rfl, ite2 (fun hc => ?_) (fun hc => ?_)⟩⟩
    · rw [if_pos (of_decide_eq_true hc)] at hk
      exact ⟨_, rfl, hk⟩
    · rw [if_neg (fun z => hc (decide_eq_true z))] at hk
      exact hk
end
end RK
namespace RK
open PySem
open L2 hiding pv pe_bltn pe_int pe_bl pe_non pe_str pe_lst pe_tup pe_op pe_ix pe_callB pe_callTy pe_call pe_cmp pe_cmpR pe_and pe_one pe_not pe_slice pe_dget pe_dget1 pe_dnewK pe_bm pt_cmp pt_cmpR pt_not pt_val pw_or pw_or1 pw_and pw_and1 pa_nil pa_cons pa_int pa_nm pa_bin pa_sub pa_call pa_tup pss_cons pss_one pss_nil ps_set ps_if ps_for ps_ret ps_expr ps_dput pg_name pg_tup pgs_nil pgs_cons pi_list pi_tup pi_range1 po_none po_some pc_isN PE PT PW PA PS PSs PC PG PGs PI PO PF
open R hiding ok
section
variable {P : Program} {w : World} {K : PySem.W.Frag} {mg : Str → Option Value} {base : Heap} {f : Addr} {fd : FuncData}
def spPlan : Sp := fun vs H Q _ => ∃ c : Int, vs = [.int c] ∧ ∀ (t : Addr) (size each : Int) (H' : Hp), Same H H' → H t = none → H' t = some (.tup [.int size, .int each]) → 0 < size → size ≤ 10 ^ 90 → 1 ≤ each → each ≤ 10 ^ 20 → Q (.ref t) H'
theorem inV_ints (m : Int) (ms : List Int) : inV (.int m) (ms.map V.int) = decide (m ∈ ms) := by
  induction ms with
  | nil => rfl
  | cons x r ih =>
    unfold inV at ih ⊢
    rw [List.map_cons, List.any_cons, ih]
    have : eqV (.int x) (.int m) = decide (m = x) := by
      unfold eqV
      rw [Bool.eq_iff_iff]
      simp
      exact eq_comm
    rw [this, Bool.eq_iff_iff]
    simp
def okNum (m : Int) : Prop := 0 ≤ m ∧ m < 10 ^ 91
theorem keepD_snoc (kvs : List (Int × Nat)) (m : Int) (s : Nat) (h : m ∉ kvs.map (·.1)) : putK (keepD kvs) (Sum.inl m : Key) (V.int (s : Int)) = keepD (kvs ++ [(m, s)]) := by
  rw [putK_new]
  · unfold keepD
    rw [List.map_append]
    rfl
  · cases e : valV (keepD kvs) (Sum.inl m : Key) with
    | none => rfl
    | some v =>
      exfalso
      have := valV_in e
      unfold keepD at this
      rw [List.map_map] at this
      obtain ⟨x, hx, e2⟩ := List.mem_map.mp this
      refine h (List.mem_map.mpr ⟨x, hx, ?_⟩)
      exact Sum.inl.inj e2
def okKeep (kvs : List (Int × Nat)) : Prop := (kvs.map (·.1)).Nodup ∧ ∀ p ∈ kvs, okNum p.1 ∧ 1 ≤ p.2 ∧ p.2 ≤ 40
inductive Scal : V → Prop where
  | non : Scal .non
  | bl (b : Bool) : Scal (.bl b)
  | int (i : Int) : Scal (.int i)
  | str (s : Str) : Scal (.str s)
/-- the same data, to a depth -/
def Alike (K : PySem.W.Frag) (H : Hp) : Nat → V → V → Prop
  | 0, _, _ => False
  | n + 1, x, y => (x = y ∧ Scal x) ∨ ∃ (a b : Addr) (xs ys : List V), x = .ref a ∧ y = .ref b ∧ ((H a = some (.lst xs) ∧ H b = some (.lst ys)) ∨ (H a = some (.tup xs) ∧ H b = some (.tup ys))) ∧ xs.length = ys.length ∧ xs.length ≤ 100000 ∧
    ∀ (i : Nat) (u v : V), xs[i]? = some u → ys[i]? = some v → Alike K H n u v
theorem Alike.same {K : PySem.W.Frag} {H H' : Hp} (s : Same H H') : ∀ {n : Nat} {x y : V}, Alike K H n x y → Alike K H' n x y
  | 0, _, _, h => h
  | n + 1, _, _, .inl h => .inl h
  | n + 1, _, _, .inr ⟨a, b, xs, ys, e1, e2, h, hl, hs, k⟩ => .inr ⟨a, b, xs, ys, e1, e2, h.imp (fun g => ⟨s _ _ g.1, s _ _ g.2⟩) (fun g => ⟨s _ _ g.1, s _ _ g.2⟩), hl, hs, fun i u v e3 e4 => Alike.same s (k i u v e3 e4)⟩
def spSo (K : PySem.W.Frag) (n : Nat) : Sp := fun vs H Q _ => ∃ x y, vs = [x, y] ∧ Alike K H n x y ∧ ∀ H', Same H H' → Q (.bl true) H'
theorem kit_str_bool (K : PySem.W.Frag) : PySem.W.kitOne K (.type "str") (.type "bool") = some false := by with_unfolding_all rfl
theorem kit_str_int (K : PySem.W.Frag) : PySem.W.kitOne K (.type "str") (.type "int") = some false := by with_unfolding_all rfl
theorem _root_.L2.TyOf.same {H H' : Hp} {a : Addr} {t : Value} (h : TyOf K H (.ref a) t) (s : Same H H') : TyOf K H' (.ref a) t := by
  cases h with
  | lst e => exact .lst (s _ _ e)
  | frz e => exact .frz (s _ _ e)
  | tup e => exact .tup (s _ _ e)
  | dK e => exact .dK (s _ _ e)
  | dT e => exact .dT (s _ _ e)
  | ins e c h1 h2 h3 h4 => exact .ins (s _ _ e) c h1 h2 h3 h4
/-- a def of the text and what it does -/
def Has (P : Program) (w : World) (K : PySem.W.Frag) (mg : Str → Option Value) (base : Heap) (x : Str) (ps : List Str) (st : Stmt) (k : Nat) (sp : Sp) : Prop :=
  ∃ f fd, Fn K mg x ps st f fd ∧ FnOk P w K mg base CX0 k f fd ps sp
theorem int_at {ns : List Int} {i : Nat} {x : V} (h : (ns.map V.int)[i]? = some x) : ∃ n, ns[i]? = some n ∧ n ∈ ns ∧ i < ns.length ∧ V.int n = x := by
  rw [List.getElem?_map] at h
  cases e : ns[i]? with
  | none => rw [e] at h; cases h
  | some n => rw [e] at h; exact ⟨n, rfl, List.mem_of_getElem? e, (List.getElem?_eq_some_iff.mp e).1, Option.some.inj h⟩
theorem big_of {m : Int} (h : okNum m) : big m := by
  obtain ⟨h1, h2⟩ := h
  unfold big
  have h3 : (10 : Nat) ^ 91 < 2 ^ 400 := by decide +kernel
  have h4 : (m.natAbs : Int) < ((10 ^ 91 : Nat) : Int) := by
    rw [Int.natAbs_of_nonneg h1]
    exact_mod_cast h2
  exact Nat.lt_trans (Int.ofNat_lt.mp h4) h3
theorem keepD_get {kvs : List (Int × Nat)} (nd : (kvs.map (·.1)).Nodup) {p : Int × Nat} (h : p ∈ kvs) : valV (keepD kvs) (Sum.inl p.1 : Key) = some (V.int (p.2 : Int)) := by
  refine valV_of ?_ ?_
  · unfold keepD
    rw [List.map_map]
    have : kvs.map ((fun x => x.1) ∘ fun p : Int × Nat => ((Sum.inl p.1 : Key), V.int (p.2 : Int))) = (kvs.map (·.1)).map (fun i => (Sum.inl i : Key)) := by
      rw [List.map_map]
      rfl
    rw [this]
    unfold List.Nodup
    rw [List.pairwise_map]
    exact nd.imp fun h z => h (Sum.inl.inj z)
  · exact List.mem_map.mpr ⟨p, h, rfl⟩
theorem sorted_eq {l m : List (List Int)} (h : l.Perm m) (h1 : l.Pairwise lexLe) (h2 : m.Pairwise lexLe) : l = m :=
  h.eq_of_pairwise (fun a b _ _ e1 e2 => TS.lexB_total a b e2 e1) h1 h2
theorem Tups.alike {K : PySem.W.Frag} {H : Hp} {bs cs : List Addr} {ds : List (List Int)} (t : Tups H bs ds) (u : Tups H cs ds) (hd : ∀ d ∈ ds, d.length ≤ 1000) {i : Nat} {x y : V} (hx : (bs.map V.ref)[i]? = some x) (hy : (cs.map V.ref)[i]? = some y) : Alike K H 2 x y := by
  rw [List.getElem?_map] at hx hy
  cases e1 : bs[i]? with
  | none => rw [e1] at hx; cases hx
  | some b =>
    cases e2 : cs[i]? with
    | none => rw [e2] at hy; cases hy
    | some c =>
      rw [e1] at hx
      rw [e2] at hy
      cases hx
      cases hy
      obtain ⟨d, hd1, hb⟩ := t.at e1
      obtain ⟨d', hd2, hc⟩ := u.at e2
      rw [hd1] at hd2
      cases hd2
      refine .inr ⟨b, c, d.map V.int, d.map V.int, rfl, rfl, .inr ⟨hb, hc⟩, rfl, ?_, fun j u v hu hv => ?_⟩
      · rw [List.length_map]
        have := hd d (List.mem_of_getElem? hd1)
        omega
      · rw [hu] at hv
        cases hv
        obtain ⟨m, _, _, _, rfl⟩ := int_at hu
        exact .inl ⟨rfl, .int m⟩
def spLaw (K : PySem.W.Frag) : Sp := fun vs H Q _ => ∃ (a : Addr) (ns : List Int), vs = [.ref a] ∧ SqL K H a (ns.map V.int) ∧ ns.length ≤ 63 ∧ ∀ H', Q (.bl true) H'
end
end RK

set_option autoImplicit false
set_option maxRecDepth 100000
set_option linter.all false
set_option Elab.async false
namespace RK
open PySem L2
/-! ### deals: rooms, what is dealt, rows -/
def shareOf (kvs : List (Int × Nat)) (k : Int) : Nat := ((kvs.find? fun p => decide (p.1 = k)).map (·.2)).getD 0
theorem shareOf_mem {kvs : List (Int × Nat)} (nd : (kvs.map (·.1)).Nodup) {p : Int × Nat} (h : p ∈ kvs) : shareOf kvs p.1 = p.2 := by
  unfold shareOf
  induction kvs with
  | nil => cases h
  | cons q r ih =>
    rw [List.map_cons, List.nodup_cons] at nd
    rw [List.find?_cons]
    rcases List.mem_cons.mp h with rfl | h
    · simp
    · have : ¬ q.1 = p.1 := fun e => nd.1 (by rw [e]; exact List.mem_map_of_mem h)
      rw [decide_eq_false this]
      exact ih nd.2 h
def wayK (size : Int) (kvs : List (Int × Nat)) (n k : Int) : Int := RD.way size n k (shareOf kvs k)
def capK (each : Int) (kvs : List (Int × Nat)) (k : Int) : Int := each * (shareOf kvs k : Int)
def roomD (kvs : List (Int × Nat)) (r : Int → Int) : List (Key × V) := kvs.map fun p => ((Sum.inl p.1 : Key), V.int (r p.1))
theorem roomD_get {r : Int → Int} {k : Int} : ∀ {kvs : List (Int × Nat)}, k ∈ kvs.map (·.1) → valV (roomD kvs r) (Sum.inl k : Key) = some (V.int (r k))
  | [], h => by cases h
  | p :: q, h => by
    unfold roomD
    rw [List.map_cons]
    by_cases e : p.1 = k
    · subst e
      exact valV_pos rfl
    · rw [valV_neg (fun z => e (Sum.inl.inj z))]
      rw [List.map_cons] at h
      rcases List.mem_cons.mp h with h | h
      · exact absurd h.symm e
      · exact roomD_get h
theorem roomD_put {r : Int → Int} {k v : Int} {kvs : List (Int × Nat)} (h : k ∈ kvs.map (·.1)) : putK (roomD kvs r) (Sum.inl k : Key) (V.int v) = roomD kvs (fun j => if j = k then v else r j) := by
  unfold putK
  rw [valV_any, roomD_get h]
  rw [if_pos (show (some (V.int (r k))).isSome = true from rfl)]
  unfold roomD
  rw [List.map_map]
  refine List.map_congr_left fun p _ => ?_
  show (if (Sum.inl p.1 : Key) = Sum.inl k then ((Sum.inl p.1 : Key), V.int v) else (Sum.inl p.1, V.int (r p.1))) = (Sum.inl p.1, V.int (if p.1 = k then v else r p.1))
  by_cases e : p.1 = k
  · rw [if_pos (by rw [e]), if_pos e]
  · rw [if_neg (fun z => e (Sum.inl.inj z)), if_neg e]
def dealD (d : List (Int × Int)) : List (Key × V) := d.map fun p => ((Sum.inl p.1 : Key), V.int p.2)
def optV : Option Int → V
  | none => .non
  | some k => .int k
theorem dealD_get {n : Int} : ∀ {d : List (Int × Int)}, valV (dealD d) (Sum.inl n : Key) = (RD.look d n).map V.int
  | [] => rfl
  | p :: q => by
    unfold dealD RD.look
    rw [List.map_cons, List.find?_cons]
    by_cases e : p.1 = n
    · rw [decide_eq_true e]
      exact valV_pos (by rw [e])
    · rw [decide_eq_false e, valV_neg (fun z => e (Sum.inl.inj z))]
      exact dealD_get (d := q)
theorem look_has (d : List (Int × Int)) (r : Int → Int) (n : Int) : (RD.look d n).isSome = RD.GS.has ⟨d, r⟩ n := by
  unfold RD.look RD.GS.has
  rw [Option.isSome_map, Bool.eq_iff_iff, List.find?_isSome, List.any_eq_true]
theorem dealD_put {n k : Int} {d : List (Int × Int)} (h : RD.look d n = none) : putK (dealD d) (Sum.inl n : Key) (V.int k) = dealD (d ++ [(n, k)]) := by
  rw [putK_new _ (by rw [dealD_get, h]; rfl)]
  unfold dealD
  rw [List.map_append]
  rfl
theorem optV_look (d : List (Int × Int)) (n : Int) : (valV (dealD d) (Sum.inl n : Key)).getD .non = optV (RD.look d n) := by
  rw [dealD_get]
  cases RD.look d n <;> rfl
/-- rows (name, keeper or None) by their addresses -/
def Rows (H : Hp) (bs : List Addr) (rs : List (Int × Option Int)) : Prop := Paired (fun b r => H b = some (.tup [V.int r.1, optV r.2])) bs rs
theorem Rows.same {H H' : Hp} {bs : List Addr} {rs : List (Int × Option Int)} (t : Rows H bs rs) (s : Same H H') : Rows H' bs rs := Paired.mapP t fun _ _ e => s _ _ e
theorem Rows.snoc {H : Hp} {bs : List Addr} {rs : List (Int × Option Int)} {b : Addr} {r : Int × Option Int} (t : Rows H bs rs) (h : H b = some (.tup [V.int r.1, optV r.2])) : Rows H (bs ++ [b]) (rs ++ [r]) := Paired.snoc t h
theorem Rows.length {H : Hp} {bs : List Addr} {rs : List (Int × Option Int)} (t : Rows H bs rs) : bs.length = rs.length := Paired.length t
theorem Rows.upd {H : Hp} {bs : List Addr} {rs : List (Int × Option Int)} {p : Addr} {o : HO} (t : Rows H bs rs) (h : ∀ xs, H p ≠ some (.tup xs)) : Rows (L2.upd H p o) bs rs := Paired.mapP t fun b d e => by
  rw [upd_ne (fun z => h _ (by rw [← z]; exact e))]
  exact e
theorem Rows.fresh {H : Hp} {bs : List Addr} {rs : List (Int × Option Int)} {p : Addr} {o : HO} (t : Rows H bs rs) (h : H p = none) : Rows (L2.upd H p o) bs rs := t.upd fun xs e => by rw [h] at e; cases e
theorem Rows.at {H : Hp} {bs : List Addr} {rs : List (Int × Option Int)} {i : Nat} {b : Addr} (t : Rows H bs rs) (h : bs[i]? = some b) : ∃ r, rs[i]? = some r ∧ H b = some (.tup [V.int r.1, optV r.2]) := by
  unfold Rows at t
  induction t generalizing i with
  | nil => simp at h
  | @cons x y l1 l2 r _ ih =>
    cases i with
    | zero =>
      simp at h
      subst h
      exact ⟨y, rfl, r⟩
    | succ j =>
      obtain ⟨d, h1, h2⟩ := ih (i := j) (by simpa using h)
      exact ⟨d, by simpa using h1, h2⟩
theorem ints_lay (ns : List Int) : (PyData.list (ns.map PyData.int)).canLay0 = true := by
  simp [PyData.canLay0]
  induction ns with
  | nil => simp [PyData.canLayAll0]
  | cons x r ih => simp [PyData.canLayAll0, PyData.canLay0, ih]
theorem ints_depth (ns : List Int) : (PyData.list (ns.map PyData.int)).depth ≤ 60 := by
  simp [PyData.depth]
  have : PyData.depthAll (ns.map PyData.int) ≤ 1 := by
    induction ns with
    | nil => simp [PyData.depthAll]
    | cons x r ih => simp [PyData.depthAll, PyData.depth]; omega
  omega
theorem ints_eqv (ns : List Int) : PyData.eqv (PyData.list (ns.map PyData.int)) (PyData.list (ns.map PyData.int)) = true := by
  simp [PyData.eqv]
  induction ns with
  | nil => simp [PyData.eqvAll]
  | cons x r ih => simp [PyData.eqvAll, PyData.eqv, ih]
theorem ints_dats {K : PySem.W.Frag} {H : Hp} : ∀ (ns : List Int), Dats K H (ns.map V.int) (ns.map PyData.int)
  | [] => .nil
  | n :: r => .cons (.int n) (ints_dats r)
/-! ### pairs as data and as triples -/
def toPr (d : List Int) : RD.Pr := (d.getD 0 0, d.getD 1 0, d.getD 2 0)
theorem lex_plt {a b : List Int} (ha : a.length = 3) (hb : b.length = 3) (h : lexLe a b) : RD.plt (toPr a) (toPr b) ∨ a = b := by
  match a, ha, b, hb with
  | [x, y, z], _, [u, v, w], _ =>
    unfold lexLe at h
    unfold RD.plt toPr
    simp only [TS.lexB] at h
    simp only [List.getD_cons_zero, List.getD_cons_succ]
    by_cases e1 : u = x
    · subst e1
      by_cases e2 : v = y
      · subst e2
        by_cases e3 : w = z
        · exact .inr (by rw [e3])
        · rw [if_pos rfl, if_pos rfl, if_neg e3] at h
          have := of_decide_eq_false h
          left
          omega
      · rw [if_pos rfl, if_neg e2] at h
        have := of_decide_eq_false h
        left
        omega
    · rw [if_neg e1] at h
      have := of_decide_eq_false h
      left
      omega
end RK

set_option autoImplicit false
set_option maxRecDepth 100000
set_option linter.all false
set_option Elab.async false
namespace RK
open PySem
open L2 hiding pv pe_bltn pe_int pe_bl pe_non pe_str pe_lst pe_tup pe_op pe_ix pe_callB pe_callTy pe_call pe_cmp pe_cmpR pe_and pe_one pe_not pe_slice pe_dget pe_dget1 pe_dnewK pe_bm pt_cmp pt_cmpR pt_not pt_val pw_or pw_or1 pw_and pw_and1 pa_nil pa_cons pa_int pa_nm pa_bin pa_sub pa_call pa_tup pss_cons pss_one pss_nil ps_set ps_if ps_for ps_ret ps_expr ps_dput pg_name pg_tup pgs_nil pgs_cons pi_list pi_tup pi_range1 po_none po_some pc_isN pe_comp ps_setC pf_nil pf_one pc_din pc_dnotin pc_notN PE PT PW PA PS PSs PC PG PGs PI PO PF
open R hiding ok
/-- a tuple as a target inside a comprehension: the reading names K itself -/
theorem pg_tupC {X : Cx} {K : PySem.W.Frag} {es : List Expr} {pos : Pos} {k n : Nat} {t : TGs} (hK : X.K = K) (hc : X.calm = true) (h : R.PGs X es t) (hn : (assignEach es X.env).length = n := by rfl) (hst : (assignEach es X.env).findIdx? (·.1) = none := by rfl) :
    R.PG X (.Tuple es k pos) (gTup K n t) := by
  subst hK
  exact pg_tup hc h hn hst
end RK

set_option autoImplicit false
set_option maxRecDepth 100000
set_option linter.all false
set_option Elab.async false
namespace RK
open PySem L2
/-! ### rows and moves as data -/
theorem ref_at {bs : List Addr} {i : Nat} {x : V} (h : (bs.map V.ref)[i]? = some x) : ∃ b, bs[i]? = some b ∧ V.ref b = x := by
  rw [List.getElem?_map] at h
  cases e : bs[i]? with
  | none => rw [e] at h; cases h
  | some b => rw [e] at h; exact ⟨b, rfl, Option.some.inj h⟩
theorem map_at {α β : Type} {g : α → β} {l : List α} {i : Nat} {y : β} (h : (l.map g)[i]? = some y) : ∃ x, l[i]? = some x ∧ g x = y := by
  rw [List.getElem?_map] at h
  cases e : l[i]? with
  | none => rw [e] at h; cases h
  | some x => rw [e] at h; exact ⟨x, rfl, Option.some.inj h⟩
abbrev Row := Int × Option Int
abbrev Mov := Int × Option Int × Option Int
def Movs (H : Hp) (bs : List Addr) (ms : List Mov) : Prop := Paired (fun b m => H b = some (.tup [V.int m.1, optV m.2.1, optV m.2.2])) bs ms
theorem Movs.same {H H' : Hp} {bs : List Addr} {ms : List Mov} (t : Movs H bs ms) (s : Same H H') : Movs H' bs ms := Paired.mapP t fun _ _ e => s _ _ e
theorem Movs.snoc {H : Hp} {bs : List Addr} {ms : List Mov} {b : Addr} {m : Mov} (t : Movs H bs ms) (h : H b = some (.tup [V.int m.1, optV m.2.1, optV m.2.2])) : Movs H (bs ++ [b]) (ms ++ [m]) := Paired.snoc t h
theorem Movs.length {H : Hp} {bs : List Addr} {ms : List Mov} (t : Movs H bs ms) : bs.length = ms.length := Paired.length t
theorem Movs.upd {H : Hp} {bs : List Addr} {ms : List Mov} {p : Addr} {o : HO} (t : Movs H bs ms) (h : ∀ xs, H p ≠ some (.tup xs)) : Movs (L2.upd H p o) bs ms := Paired.mapP t fun b d e => by
  rw [upd_ne (fun z => h _ (by rw [← z]; exact e))]
  exact e
theorem Movs.fresh {H : Hp} {bs : List Addr} {ms : List Mov} {p : Addr} {o : HO} (t : Movs H bs ms) (h : H p = none) : Movs (L2.upd H p o) bs ms := t.upd fun xs e => by rw [h] at e; cases e
theorem paired_at {α β : Type} {F : α → β → Prop} {l : List α} {m : List β} {i : Nat} {b : α} (t : Paired F l m) (h : l[i]? = some b) : ∃ r, m[i]? = some r ∧ F b r := by
  induction t generalizing i with
  | nil => simp at h
  | @cons x y l1 l2 r _ ih =>
    cases i with
    | zero =>
      simp at h
      subst h
      exact ⟨y, rfl, r⟩
    | succ j =>
      obtain ⟨d, h1, h2⟩ := ih (i := j) (by simpa using h)
      exact ⟨d, by simpa using h1, h2⟩
theorem Movs.at {H : Hp} {bs : List Addr} {ms : List Mov} {i : Nat} {b : Addr} (t : Movs H bs ms) (h : bs[i]? = some b) : ∃ r, ms[i]? = some r ∧ H b = some (.tup [V.int r.1, optV r.2.1, optV r.2.2]) := paired_at t h
/-- the keeper by rows -/
def oldK (rs : List Row) (n : Int) : Option Int := (rs.find? fun r => decide (r.1 = n)).bind (·.2)
def movK (rs qs : List Row) : List Mov := (qs.filter fun q => !decide (oldK rs q.1 = q.2)).map fun q => (q.1, oldK rs q.1, q.2)
theorem movK_snoc {rs qs : List Row} {i : Nat} {q : Row} (h : qs[i]? = some q) : movK rs (qs.take (i + 1)) = movK rs (qs.take i) ++ (if (!decide (oldK rs q.1 = q.2)) = true then [(q.1, oldK rs q.1, q.2)] else []) := by
  unfold movK
  rw [take_snoc h, List.filter_append, List.map_append]
  congr 1
  by_cases e : oldK rs q.1 = q.2
  · simp [e]
  · simp [e]
theorem movK_len (rs qs : List Row) : (movK rs qs).length ≤ qs.length := by
  unfold movK
  rw [List.length_map]
  exact List.length_filter_le _ _
theorem opt_dec2 (o u : Option Int) : decide (optV o = optV u) = decide (o = u) := by
  cases o with
  | none =>
    cases u with
    | none => rfl
    | some k => rfl
  | some j =>
    cases u with
    | none => rfl
    | some k =>
      rw [Bool.eq_iff_iff]
      simp [optV]
theorem opt_scal2 (o u : Option Int) : scal (optV o) (optV u) = true := by
  cases o <;> cases u <;> rfl
def rowsD (rs : List Row) : List (Key × V) := rs.map fun r => ((Sum.inl r.1 : Key), optV r.2)
theorem rowsD_get {n : Int} : ∀ {rs : List Row}, (valV (rowsD rs) (Sum.inl n : Key)).getD .non = optV (oldK rs n)
  | [] => rfl
  | r :: q => by
    unfold rowsD oldK
    rw [List.map_cons, List.find?_cons]
    by_cases e : r.1 = n
    · rw [decide_eq_true e, valV_pos (by rw [e])]
      rfl
    · rw [decide_eq_false e, valV_neg (fun z => e (Sum.inl.inj z))]
      exact rowsD_get (rs := q)
theorem rows_pairs {H : Hp} : ∀ {bs : List Addr} {rs : List Row}, Rows H bs rs → Paired (fun (b : Addr) (p : Key × V) => H b = some (.tup [kV p.1, p.2])) bs (rowsD rs)
  | _, _, .nil => .nil
  | _, _, .cons h t => .cons h (rows_pairs t)
theorem rowsD_nd {rs : List Row} (nd : (rs.map (·.1)).Nodup) : ((rowsD rs).map (·.1)).Nodup := by
  have : (rowsD rs).map (·.1) = (rs.map (·.1)).map (fun i => (Sum.inl i : Key)) := by
    unfold rowsD
    rw [List.map_map, List.map_map]
    rfl
  rw [this]
  unfold List.Nodup
  rw [List.pairwise_map]
  exact nd.imp fun h z => h (Sum.inl.inj z)
theorem dec_int2 (i j : Int) : decide (V.int i = V.int j) = decide (i = j) := by
  rw [Bool.eq_iff_iff]
  simp
def forBody (s : Stmt) : List Stmt := match s with
  | .For _ _ b _ _ => b
  | _ => []
def asgE (l : List Stmt) (i : Nat) : Expr := match l.getD i (.Pass ⟨0, 0, 0, 0⟩) with
  | .Assign _ e _ => e
  | .Return (some e) _ => e
  | _ => .Constant .none 0 ⟨0, 0, 0, 0⟩
def binL (e : Expr) : Expr := match e with
  | .BinOp a _ _ _ => a
  | e => e
theorem nodup_of_le {ns names : List Int} (h : ns.Perm names) (nd : names.Nodup) : ns.Nodup := h.nodup_iff.mpr nd
/-! ### data -/
theorem eqvAll_map {α : Type} (g : α → PyData) (h : ∀ a, PyData.eqv (g a) (g a) = true) : ∀ l : List α, PyData.eqvAll (l.map g) (l.map g) = true
  | [] => by simp [PyData.eqvAll]
  | a :: l => by simp [PyData.eqvAll, h a, eqvAll_map g h l]
theorem layAll_map {α : Type} (g : α → PyData) (h : ∀ a, (g a).canLay0 = true) : ∀ l : List α, PyData.canLayAll0 (l.map g) = true
  | [] => by simp [PyData.canLayAll0]
  | a :: l => by simp [PyData.canLayAll0, h a, layAll_map g h l]
theorem depthAll_map {α : Type} (g : α → PyData) (n : Nat) (h : ∀ a, (g a).depth ≤ n) : ∀ l : List α, PyData.depthAll (l.map g) ≤ n
  | [] => by simp [PyData.depthAll]
  | a :: l => by
    have h1 := h a
    have h2 := depthAll_map g n h l
    simp [PyData.depthAll]
    omega
structure Nice (n : Nat) (d : PyData) : Prop where
  lay : d.canLay0 = true
  dep : d.depth ≤ n
  slf : PyData.eqv d d = true
theorem nice_list {α : Type} {g : α → PyData} {n : Nat} (h : ∀ a, Nice n (g a)) (l : List α) : Nice (n + 1) (.list (l.map g)) := by
  have h1 := depthAll_map g n (fun a => (h a).dep) l
  exact ⟨by simp [PyData.canLay0]; exact layAll_map g (fun a => (h a).lay) l, by simp [PyData.depth]; omega, by simp [PyData.eqv]; exact eqvAll_map g (fun a => (h a).slf) l⟩
def optP : Option Int → PyData
  | none => .none
  | some k => .int k
def rowP (r : Row) : PyData := .tuple [.int r.1, optP r.2]
def movP (m : Mov) : PyData := .tuple [.int m.1, optP m.2.1, optP m.2.2]
theorem rowP_nice (r : Row) : Nice 3 (rowP r) := by
  obtain ⟨n, o⟩ := r
  cases o <;> exact ⟨by simp [rowP, optP, PyData.canLay0, PyData.canLayAll0], by simp [rowP, optP, PyData.depth, PyData.depthAll], by simp [rowP, optP, PyData.eqv, PyData.eqvAll]⟩
theorem movP_nice (m : Mov) : Nice 3 (movP m) := by
  obtain ⟨n, o, u⟩ := m
  cases o <;> cases u <;> exact ⟨by simp [movP, optP, PyData.canLay0, PyData.canLayAll0], by simp [movP, optP, PyData.depth, PyData.depthAll], by simp [movP, optP, PyData.eqv, PyData.eqvAll]⟩
theorem opt_dat {K : PySem.W.Frag} {H : Hp} (o : Option Int) : Dat K H (optV o) (optP o) := by
  cases o with
  | none => exact .non
  | some k => exact .int k
theorem Rows.dats {K : PySem.W.Frag} {H : Hp} : ∀ {bs : List Addr} {rs : List Row}, Rows H bs rs → Dats K H (bs.map V.ref) (rs.map rowP)
  | _, _, .nil => .nil
  | _, _, .cons h t => .cons (.tup (SqT.of h) (.cons (.int _) (.cons (opt_dat _) .nil))) (Rows.dats t)
theorem Movs.dats {K : PySem.W.Frag} {H : Hp} : ∀ {bs : List Addr} {ms : List Mov}, Movs H bs ms → Dats K H (bs.map V.ref) (ms.map movP)
  | _, _, .nil => .nil
  | _, _, .cons h t => .cons (.tup (SqT.of h) (.cons (.int _) (.cons (opt_dat _) (.cons (opt_dat _) .nil)))) (Movs.dats t)
theorem ne_same {X : Cx} {H : Hp} {x y : V} {d : PyData} {n : Nat} {Q : VK} (hx : Dat X.K H x d) (hy : Dat X.K H y d) (hd : Nice n d) (hn : n ≤ 60) (q : Q (.bl false) H) : rEqD X true x y H Q := by
  refine ⟨d, d, hx, hy, hd.lay, hd.lay, Nat.le_trans hd.dep hn, ?_⟩
  rw [hd.slf]
  exact q
end RK

set_option autoImplicit false
set_option maxRecDepth 100000
set_option linter.all false
set_option Elab.async false
namespace RK
open PySem L2
/-! ### the one deal -/
def IsDeal (size each : Int) (kvs : List (Int × Nat)) (names : List Int) (rs : List Row) : Prop :=
  ∃ (ns : List Int) (μ : Int → Option Int), rs = ns.map (fun n => (n, μ n)) ∧ ns.Perm names ∧ ns.Pairwise (· ≤ ·) ∧ RD.Stab (wayK size kvs) names (kvs.map (·.1)) (capK each kvs) μ
section
variable {size each : Int} {kvs : List (Int × Nat)} {names : List Int} {rs rs' : List Row}
theorem IsDeal.one (a : IsDeal size each kvs names rs) (b : IsDeal size each kvs names rs') : rs = rs' := by
  obtain ⟨ns, μ, rfl, h1, h2, S⟩ := a
  obtain ⟨ns', μ', rfl, h1', h2', S'⟩ := b
  have e : ns = ns' := (h1.trans h1'.symm).eq_of_pairwise (fun a b _ _ h1 h2 => by omega) h2 h2'
  subst e
  refine List.map_congr_left fun n hn => ?_
  rw [S.one S' n (h1.mem_iff.mp hn)]
open Classical in
noncomputable def dealOf (size each : Int) (kvs : List (Int × Nat)) (names : List Int) : List Row := if h : ∃ rs, IsDeal size each kvs names rs then h.choose else []
theorem IsDeal.eq (h : IsDeal size each kvs names rs) : rs = dealOf size each kvs names := by
  have hx : ∃ rs, IsDeal size each kvs names rs := ⟨rs, h⟩
  unfold dealOf
  rw [dif_pos hx]
  exact h.one hx.choose_spec
theorem IsDeal.fst (h : IsDeal size each kvs names rs) : ∃ ns : List Int, rs.map (·.1) = ns ∧ ns.Perm names := by
  obtain ⟨ns, μ, rfl, h1, _⟩ := h
  refine ⟨ns, ?_, h1⟩
  rw [List.map_map]
  exact List.map_id' ns
theorem IsDeal.nd (h : IsDeal size each kvs names rs) (nn : names.Nodup) : (rs.map (·.1)).Nodup := by
  obtain ⟨ns, e, h1⟩ := h.fst
  rw [e]
  exact nodup_of_le h1 nn
theorem IsDeal.len (h : IsDeal size each kvs names rs) : rs.length = names.length := by
  obtain ⟨ns, e, h1⟩ := h.fst
  rw [← h1.length_eq, ← e, List.length_map]
theorem isDeal_nil : IsDeal size each [] [] [] :=
  ⟨[], fun _ => none, rfl, .nil, .nil, ⟨fun n k h => (nomatch h), fun k hk => (nomatch hk), fun n hn => (nomatch hn)⟩⟩
end
/-! ### deeds -/
/-- a deed as it is told: any share -/
inductive Tell where
  | put (n : Int)
  | come (k s : Int)
  | leave (k : Int)
  | drop (n : Int)
  | wher (n : Int)
/-- why a deed is refused -/
inductive Rf where
  | kt | ns | nk | nt | nn
  deriving DecidableEq
def Rf.txt : Rf → Str
  | .kt => "keeper there"
  | .ns => "no share"
  | .nk => "no keeper"
  | .nt => "name there"
  | .nn => "no name"
def Tell.vs : Tell → List V
  | .put n => [.str "put", .int n]
  | .come k s => [.str "come", .int k, .int s]
  | .leave k => [.str "leave", .int k]
  | .drop n => [.str "drop", .int n]
  | .wher n => [.str "where", .int n]
def Tell.rf (kvs : List (Int × Nat)) (names : List Int) : Tell → Option Rf
  | .put n => if n ∈ names then some .nt else none
  | .come k s => if k ∈ kvs.map (·.1) then some .kt else if s < 1 then some .ns else none
  | .leave k => if k ∈ kvs.map (·.1) then none else some .nk
  | .drop n => if n ∈ names then none else some .nn
  | .wher n => if n ∈ names then none else some .nn
inductive Deed where
  | refu (t : Tell) (r : Rf)
  | put (n : Int)
  | come (k : Int) (s : Nat)
  | leave (k : Int)
  | drop (n : Int)
  | wher (n : Int)
def Deed.vs : Deed → List V
  | .refu t _ => t.vs
  | .put n => [.str "put", .int n]
  | .come k s => [.str "come", .int k, .int (s : Int)]
  | .leave k => [.str "leave", .int k]
  | .drop n => [.str "drop", .int n]
  | .wher n => [.str "where", .int n]
def Deed.good (kvs : List (Int × Nat)) (names : List Int) : Deed → Prop
  | .refu t r => t.rf kvs names = some r
  | .put n => n ∉ names ∧ okNum n ∧ few kvs.length (names.length + 1)
  | .come k s => k ∉ kvs.map (·.1) ∧ (okNum k ∧ 1 ≤ s ∧ s ≤ 40) ∧ few (kvs.length + 1) names.length
  | .leave k => k ∈ kvs.map (·.1)
  | .drop n => n ∈ names
  | .wher n => n ∈ names
def Deed.kv (kvs : List (Int × Nat)) : Deed → List (Int × Nat)
  | .come k s => kvs ++ [(k, s)]
  | .leave k => kvs.filter fun p => !decide (p.1 = k)
  | _ => kvs
def Deed.nm (names : List Int) : Deed → List Int
  | .put n => names ++ [n]
  | .drop n => names.erase n
  | _ => names
/-- what a deed is answered with -/
def AnsOk (size each : Int) (kvs : List (Int × Nat)) (names : List Int) (H : Hp) (v : V) : Deed → Prop
  | .wher n => v = optV (oldK (dealOf size each kvs names) n)
  | .refu _ r => v = .str r.txt
  | dd => ∃ (pm : Addr) (ts : List Addr), v = .ref pm ∧ H pm = some (.lst (ts.map V.ref)) ∧ Movs H ts (movK (dealOf size each kvs names) (dealOf size each (dd.kv kvs) (dd.nm names)))
/-- keepers and names behind deeds -/
def kvAll (kvs : List (Int × Nat)) : List Deed → List (Int × Nat)
  | [] => kvs
  | d :: r => kvAll (d.kv kvs) r
def nmAll (names : List Int) : List Deed → List Int
  | [] => names
  | d :: r => nmAll (d.nm names) r
def goodAll (kvs : List (Int × Nat)) (names : List Int) : List Deed → Prop
  | [] => True
  | d :: r => d.good kvs names ∧ goodAll (d.kv kvs) (d.nm names) r
theorem kvAll_snoc (kvs : List (Int × Nat)) (l : List Deed) (d : Deed) : kvAll kvs (l ++ [d]) = d.kv (kvAll kvs l) := by
  induction l generalizing kvs with
  | nil => rfl
  | cons a r ih => exact ih _
theorem nmAll_snoc (names : List Int) (l : List Deed) (d : Deed) : nmAll names (l ++ [d]) = d.nm (nmAll names l) := by
  induction l generalizing names with
  | nil => rfl
  | cons a r ih => exact ih _
theorem goodAll_append (kvs : List (Int × Nat)) (names : List Int) (l m : List Deed) : goodAll kvs names (l ++ m) ↔ goodAll kvs names l ∧ goodAll (kvAll kvs l) (nmAll names l) m := by
  induction l generalizing kvs names with
  | nil => exact ⟨fun h => ⟨trivial, h⟩, fun h => h.2⟩
  | cons a r ih =>
    constructor
    · intro h
      obtain ⟨h1, h2⟩ := (ih _ _).mp h.2
      exact ⟨⟨h.1, h1⟩, h2⟩
    · intro h
      exact ⟨h.1.1, (ih _ _).mpr ⟨h.1.2, h.2⟩⟩
/-- keepers and names as they must be -/
structure Fit (kvs : List (Int × Nat)) (names : List Int) : Prop where
  ok : okKeep kvs
  no : ∀ n ∈ names, okNum n
  nd : names.Nodup
  fw : few kvs.length names.length
theorem Fit.nil : Fit [] [] := ⟨⟨List.nodup_nil, fun _ h => (nomatch h)⟩, fun _ h => (nomatch h), List.nodup_nil, ⟨by decide, by decide⟩⟩
theorem nodup_snoc {α : Type} {l : List α} {a : α} (h : l.Nodup) (ha : a ∉ l) : (l ++ [a]).Nodup := by
  rw [List.nodup_append]
  refine ⟨h, by simp, fun x hx y hy => ?_⟩
  rw [List.mem_singleton.mp hy]
  exact fun z => ha (z ▸ hx)
theorem Fit.step {kvs : List (Int × Nat)} {names : List Int} {d : Deed} (f : Fit kvs names) (g : d.good kvs names) : Fit (d.kv kvs) (d.nm names) := by
  cases d with
  | put n =>
    refine ⟨f.ok, fun m hm => ?_, nodup_snoc f.nd g.1, by show few _ (names ++ [n]).length; rw [List.length_append]; exact g.2.2⟩
    rcases List.mem_append.mp hm with hm | hm
    · exact f.no m hm
    · rw [List.mem_singleton.mp hm]
      exact g.2.1
  | come k s =>
    refine ⟨⟨?_, fun p hp => ?_⟩, f.no, f.nd, by show few (kvs ++ [(k, s)]).length _; rw [List.length_append]; exact g.2.2⟩
    · show ((kvs ++ [(k, s)]).map (·.1)).Nodup
      rw [List.map_append]
      exact nodup_snoc f.ok.1 g.1
    · rcases List.mem_append.mp hp with hp | hp
      · exact f.ok.2 p hp
      · rw [List.mem_singleton.mp hp]
        exact g.2.1
  | leave k => exact ⟨⟨List.Nodup.sublist (List.Sublist.map _ List.filter_sublist) f.ok.1, fun p hp => f.ok.2 p (List.mem_filter.mp hp).1⟩, f.no, f.nd, few_le f.fw (List.length_filter_le _ _) (Nat.le_refl _)⟩
  | drop n => exact ⟨f.ok, fun m hm => f.no m (List.mem_of_mem_erase hm), f.nd.erase n, few_le f.fw (Nat.le_refl _) List.length_erase_le⟩
  | wher n => exact f
  | refu t r => exact f
theorem Fit.all {kvs : List (Int × Nat)} {names : List Int} : ∀ {l : List Deed}, Fit kvs names → goodAll kvs names l → Fit (kvAll kvs l) (nmAll names l) := by
  intro l
  induction l generalizing kvs names with
  | nil => intro f _; exact f
  | cons d r ih => intro f g; exact ih (f.step g.1) g.2
theorem kv_len (kvs : List (Int × Nat)) (d : Deed) : (d.kv kvs).length ≤ kvs.length + 1 := by
  cases d with
  | come k s => simp [Deed.kv]
  | leave k =>
    have := List.length_filter_le (fun p : Int × Nat => !decide (p.1 = k)) kvs
    show (kvs.filter fun p => !decide (p.1 = k)).length ≤ _
    omega
  | _ => exact Nat.le_succ _
theorem nm_len (names : List Int) (d : Deed) : (d.nm names).length ≤ names.length + 1 := by
  cases d with
  | put n => simp [Deed.nm]
  | drop n =>
    have := List.length_erase_le (a := n) (l := names)
    show (names.erase n).length ≤ _
    omega
  | _ => exact Nat.le_succ _
theorem kvAll_len : ∀ (l : List Deed) (kvs : List (Int × Nat)), (kvAll kvs l).length ≤ kvs.length + l.length
  | [], kvs => Nat.le_refl _
  | d :: r, kvs => by
    have h1 := kvAll_len r (d.kv kvs)
    have h2 := kv_len kvs d
    show (kvAll (d.kv kvs) r).length ≤ _
    rw [List.length_cons]
    omega
theorem nmAll_len : ∀ (l : List Deed) (names : List Int), (nmAll names l).length ≤ names.length + l.length
  | [], names => Nat.le_refl _
  | d :: r, names => by
    have h1 := nmAll_len r (d.nm names)
    have h2 := nm_len names d
    show (nmAll (d.nm names) r).length ≤ _
    rw [List.length_cons]
    omega
/-! ### a story's object -/
def flds (pl d l p : Addr) : List (Str × V) := [("plan", .ref pl), ("shares", .ref d), ("names", .ref l), ("rows", .ref p)]
structure SAt (K : PySem.W.Frag) (C : Addr) (H : Hp) (x pl d l p : Addr) (size each : Int) (kvs : List (Int × Nat)) (names : List Int) (bs : List Addr) (rs : List Row) : Prop where
  ob : ∃ dx, H x = some (.ins C dx (flds pl d l p))
  tp : SqT K H pl [.int size, .int each]
  dc : H d = some (.dK (keepD kvs))
  nm : H l = some (.lst (names.map V.int))
  rw : H p = some (.lst (bs.map V.ref))
  rs : Rows H bs rs
  lp : l ≠ p
/-- all but the story's own object, dict and list of names is as it was -/
def Kept (x d l : Addr) (H H' : Hp) : Prop := ∀ b o, b ≠ x → b ≠ d → b ≠ l → H b = some o → H' b = some o
theorem Kept.trans {x d l : Addr} {H H1 H2 : Hp} (a : Kept x d l H H1) (b : Kept x d l H1 H2) : Kept x d l H H2 := fun c o h1 h2 h3 h => b c o h1 h2 h3 (a c o h1 h2 h3 h)
theorem Kept.of {x d l : Addr} {H H1 : Hp} (a : Same H H1) : Kept x d l H H1 := fun c o _ _ _ h => a c o h
theorem SAt.same {K : PySem.W.Frag} {C : Addr} {H H' : Hp} {x pl d l p : Addr} {size each : Int} {kvs : List (Int × Nat)} {names : List Int} {bs : List Addr} {rs : List Row} (h : SAt K C H x pl d l p size each kvs names bs rs) (s : Same H H') :
    SAt K C H' x pl d l p size each kvs names bs rs := by
  obtain ⟨⟨dx, h1⟩, h2, h3, h4, h5, h6, h7⟩ := h
  exact ⟨⟨dx, s _ _ h1⟩, s.tup h2, s _ _ h3, s _ _ h4, s _ _ h5, h6.same s, h7⟩
theorem keepD_none {kvs : List (Int × Nat)} {k : Int} (h : k ∉ kvs.map (·.1)) : valV (keepD kvs) (Sum.inl k : Key) = none := by
  cases e : valV (keepD kvs) (Sum.inl k : Key) with
  | none => rfl
  | some v =>
    exfalso
    have := valV_in e
    unfold keepD at this
    rw [List.map_map] at this
    obtain ⟨x, hx, e2⟩ := List.mem_map.mp this
    exact h (List.mem_map.mpr ⟨x, hx, Sum.inl.inj e2⟩)
theorem keepD_some {kvs : List (Int × Nat)} {k : Int} (h : k ∈ kvs.map (·.1)) : ∃ v, valV (keepD kvs) (Sum.inl k : Key) = some v := by
  cases e : valV (keepD kvs) (Sum.inl k : Key) with
  | some v => exact ⟨v, rfl⟩
  | none =>
    exfalso
    refine valV_not e ?_
    unfold keepD
    rw [List.map_map]
    obtain ⟨x, hx, e2⟩ := List.mem_map.mp h
    exact List.mem_map.mpr ⟨x, hx, by rw [← e2]; rfl⟩
theorem keepD_drop (kvs : List (Int × Nat)) (k : Int) : dropK (keepD kvs) (Sum.inl k : Key) = keepD (kvs.filter fun p => !decide (p.1 = k)) := by
  unfold dropK keepD
  rw [List.filter_map]
  congr 1
  refine List.filter_congr fun p _ => ?_
  rw [Bool.eq_iff_iff]
  simp
end RK

set_option autoImplicit false
set_option maxRecDepth 100000
set_option linter.all false
set_option Elab.async false
namespace RK
open PySem L2
/-! ### deals that differ in some keepers -/
section
variable {size each : Int} {kvs kvs' : List (Int × Nat)} {N : List Int} {μ : Int → Option Int}
end
/-! ### what the deeds for keepers and names lead to -/
theorem keys_ints (kvs : List (Int × Nat)) : ((keepD kvs).map fun kv => kV kv.1) = (kvs.map (·.1)).map V.int := by
  unfold keepD
  rw [List.map_map, List.map_map]
  rfl
end RK

set_option autoImplicit false
namespace RK
open PySem
def top (i : Nat) : Stmt := PySem.Challenge.pw_ringdeal_k08_plain_story.main.body.getD i (.Pass ⟨0, 0, 0, 0⟩)
abbrev sPlace : Stmt := top 1
abbrev sPosts : Stmt := top 2
abbrev sSteps : Stmt := top 3
abbrev sCount : Stmt := top 4
abbrev sAmong : Stmt := top 5
abbrev sPairs : Stmt := top 6
abbrev sRoom : Stmt := top 7
abbrev sRooms : Stmt := top 9
abbrev sDeal : Stmt := top 10
abbrev sMoves : Stmt := top 11
abbrev sInit : Stmt := L2.inClass (top 20) 0
abbrev sAnew : Stmt := L2.inClass (top 20) 1
abbrev sCome : Stmt := L2.inClass (top 20) 2
abbrev sLeave : Stmt := L2.inClass (top 20) 3
abbrev sPut : Stmt := L2.inClass (top 20) 4
abbrev sDrop : Stmt := L2.inClass (top 20) 5
abbrev sWhere : Stmt := L2.inClass (top 20) 6
abbrev sNeed : Stmt := L2.inClass (top 20) 7
abbrev sDo : Stmt := top 21
abbrev sAnswer : Stmt := top 22
abbrev sAnswers : Stmt := top 23
abbrev sAfter : Stmt := top 24
abbrev sSo : Stmt := top 26
abbrev sWhole : Stmt := top 27
abbrev sAt : Stmt := top 28
abbrev sFrom : Stmt := top 29
abbrev sPlan : Stmt := top 30
abbrev sOwnDeal : Stmt := top 31
abbrev sAreRows : Stmt := top 32
abbrev sOwnMoves : Stmt := top 33
abbrev sAreMoves : Stmt := top 34
abbrev sDeedOf : Stmt := top 35
abbrev sDue : Stmt := top 36
abbrev sAlike : Stmt := top 37
abbrev sLaw : Stmt := top 38
end RK

set_option autoImplicit false
set_option maxRecDepth 100000
set_option linter.all false
set_option Elab.async false
set_option maxHeartbeats 8000000
namespace RK
open PySem L2
section
variable {P : Program} {w : World} {K : PySem.W.Frag} {mg : Str → Option Value} {base : Heap} {f : Addr} {fd : FuncData}
theorem scPlace : FnScope ["size", "name"] ["size", "name"] (defScope sPlace) := ⟨rfl, rfl, rfl, by decide +kernel, rfl, by decide +kernel, by decide +kernel⟩
theorem ok_place (F : Fun K "place_of" "place_of" sPlace f fd) : FnOk P w K mg base CX0 1 f fd ["size", "name"] spPlace := by
  refine F.ok scPlace (fun vs H Q E h => ?_) (fun cdv A outer s H vs Q E hr h => ?_)
  · obtain ⟨_, _, rfl, _⟩ := h
    rfl
  · obtain ⟨size, n, rfl, hz, hb, k⟩ := h
    refine ⟨_, pss_one (ps_ret (pe_op op_mod (pe_op op_add (pe_op op_mulB (pe_op op_mul pe_int (pv 1)) (pv 1)) (pe_op op_mul pe_int (pv 1))) (pv 0))), ?_⟩
    have h31 : ((31 : Int) * n).natAbs < 2 ^ (5 + 400) := natAbs_mul_lt (by decide) hb
    refine ⟨_, rfl, _, _, rfl, rfl, .inl ⟨by decide, by decide⟩, _, rfl, _, _, rfl, rfl, mulB (big_mono h31 (by decide)) (big_mono hb (by decide)), ?_⟩
    refine ⟨_, rfl, _, _, rfl, rfl, .inl ⟨by decide, by decide⟩, _, _, rfl, rfl, _, rfl, _, _, rfl, rfl, hz, k⟩
end
end RK

set_option autoImplicit false
set_option maxRecDepth 100000
set_option linter.all false
set_option Elab.async false
set_option maxHeartbeats 8000000
namespace RK
open PySem L2
section
variable {P : Program} {w : World} {K : PySem.W.Frag} {mg : Str → Option Value} {base : Heap} {f : Addr} {fd : FuncData}
theorem scPosts : FnScope ["size", "keeper", "share"] ["size", "keeper", "share"] (defScope sPosts) := ⟨rfl, rfl, rfl, by decide +kernel, rfl, by decide +kernel, by decide +kernel⟩
theorem csPosts : CScope (defScope sPosts) ["size", "keeper", "share"] ["post", "keeper", "size"] [none, some 1, some 0] (compScope (retE sPosts 0)) :=
  ⟨rfl, by decide +kernel, by decide +kernel, rfl, by decide +kernel, by decide +kernel, fun j i hj h => by
    match j, hj, h with
    | 0, _, h => cases h
    | 1, _, h => cases h; exact ⟨_, rfl, rfl, by decide +kernel⟩
    | 2, _, h => cases h; exact ⟨_, rfl, rfl, by decide +kernel⟩⟩
theorem ok_posts (F : Fun K "posts_of" "posts_of" sPosts f fd) (hrange : mg "range" = none) : FnOk P w K mg base CX0 1 f fd ["size", "keeper", "share"] spPosts := by
  refine F.ok scPosts (fun vs H Q E h => ?_) (fun cdv A outer s H vs Q E hr h => ?_)
  · obtain ⟨_, _, _, rfl, _⟩ := h
    rfl
  · obtain ⟨size, k, share, rfl, hz, hs, q⟩ := h
    refine ⟨_, pss_one (ps_ret (pe_comp csPosts rfl rfl rfl (pi_range1 rfl hrange (pa_cons (pv 2) pa_nil)) (fun cl s₀ H₀ fp => pg_name (i := 0) csPosts.nd rfl (Or.inl rfl) (Or.inr rfl)) (fun cl s₀ H₀ fp => pf_nil)
      (fun cl s₀ H₀ fp => pe_op op_mod (pe_op op_add (pe_op op_add (pe_op op_add (pe_op op_mul pe_int (pv 1)) (pe_op op_mul (pe_op op_mul pe_int (pv 0)) (pv 0))) (pe_op op_mul pe_int (pv 0))) pe_int) (pv 2)))), ?_⟩
    refine ⟨_, rfl, (share : Int), rfl, by omega, by omega, fun p hp => ?_⟩
    refine comp_range (fun i σ H' => i ≤ share ∧ (∃ v, σ = [v, some (.int k), some (.int size)]) ∧ H' = upd H p (.lst ((RD.posts size k i).map V.int))) ⟨Nat.zero_le _, ⟨none, rfl⟩, rfl⟩ ?_ ?_
    · rintro i σ H' hi ⟨_, ⟨v, rfl⟩, rfl⟩
      have hi' : i < share := by simpa using hi
      refine ⟨_, rfl, _, _, rfl, rfl, .inl ⟨by decide, by decide⟩, _, rfl, _, _, rfl, rfl, .inl ⟨by decide, by decide⟩, _, rfl, _, _, rfl, rfl, .inr ⟨by omega, by omega⟩, _, _, rfl, rfl, ?_⟩
      refine ⟨_, rfl, _, _, rfl, rfl, .inl ⟨by decide, by decide⟩, _, _, rfl, rfl, _, _, rfl, rfl, _, rfl, _, _, rfl, rfl, hz, ?_⟩
      refine ⟨_, upd_same, ?_, by omega, ⟨_, rfl⟩, ?_⟩
      · rw [List.length_map, RD.posts_length]
        exact small_1000 (by omega)
      · rw [upd_upd, posts_snoc, List.map_append]
        congr 4
        show V.int _ = V.int (RD.post size k i)
        unfold RD.post
        rw [Int.zero_add]
    · rintro σ H' ⟨_, _, rfl⟩
      have e : (share : Int).toNat = share := by omega
      rw [e]
      exact q p hp
end
end RK

set_option autoImplicit false
set_option maxRecDepth 100000
set_option linter.all false
set_option Elab.async false
set_option maxHeartbeats 8000000
namespace RK
open PySem L2
section
variable {P : Program} {w : World} {K : PySem.W.Frag} {mg : Str → Option Value} {base : Heap} {f : Addr} {fd : FuncData}
theorem scSteps : FnScope ["size", "one", "other"] ["size", "one", "other"] (defScope sSteps) := ⟨rfl, rfl, rfl, by decide +kernel, rfl, by decide +kernel, by decide +kernel⟩
theorem ok_steps (F : Fun K "steps" "steps" sSteps f fd) : FnOk P w K mg base CX0 1 f fd ["size", "one", "other"] spSteps := by
  refine F.ok scSteps (fun vs H Q E h => ?_) (fun cdv A outer s H vs Q E hr h => ?_)
  · obtain ⟨_, _, _, rfl, _⟩ := h
    rfl
  · obtain ⟨size, a, b, rfl, hz, k⟩ := h
    refine ⟨_, pss_one (ps_ret (pe_op op_mod (pe_op op_sub (pv 2) (pv 1)) (pv 0))), ?_⟩
    exact ⟨_, rfl, _, rfl, _, _, rfl, rfl, _, rfl, _, _, rfl, rfl, hz, k⟩
end
end RK

set_option autoImplicit false
set_option maxRecDepth 100000
set_option linter.all false
set_option Elab.async false
set_option maxHeartbeats 8000000
namespace RK
open PySem L2
section
variable {P : Program} {w : World} {K : PySem.W.Frag} {mg : Str → Option Value} {base : Heap} {f : Addr} {fd : FuncData}
theorem scCount : FnScope ["ordered", "place", "low", "high", "middle"] ["ordered", "place"] (defScope sCount) := ⟨rfl, rfl, rfl, by decide +kernel, rfl, by decide +kernel, by decide +kernel⟩
theorem ok_count (F : Fun K "count_ahead" "count_ahead" sCount f fd) (hlen : mg "len" = none) : FnOk P w K mg base CX0 1 f fd ["ordered", "place"] (spCount K) := by
  refine F.ok scCount (fun vs H Q E h => ?_) (fun cdv A outer s H vs Q E hr h => ?_)
  · obtain ⟨_, _, _, rfl, _⟩ := h
    rfl
  · obtain ⟨o, ns, place, rfl, hq, hs, hl, k⟩ := h
    refine ⟨_, pss_cons (ps_set (i := 2) scCount.nd rfl (Or.inl rfl) pe_int) (pss_cons (ps_set (i := 3) scCount.nd rfl (Or.inl rfl) (pe_callB call_len_seq (by rfl) hlen PySem.boot_len (pa_cons (pv 0) pa_nil)))
      (pss_cons (ps_while PassesOwn.never (pt_cmpR op_lt (pv 2) (pv 3) (nomark _))
        (pss_cons (ps_set (i := 4) scCount.nd rfl (Or.inl rfl) (pe_op op_fdiv (pe_op op_add (pv 2) (pv 3)) pe_int))
        (pss_one (ps_if (pt_cmpR op_lt (pe_ix ix_list (pv 0) (pv 4) (fun _ _ => rfl)) (pv 1) (nomark _)) (pss_one (ps_set (i := 2) scCount.nd rfl (Or.inl rfl) (pe_op op_add (pv 4) pe_int))) (pss_one (ps_set (i := 3) scCount.nd rfl (Or.inl rfl) (pv 4)))))))
      (pss_one (ps_ret (pv 2))))), ?_⟩
    refine ⟨_, rfl, o, _, rfl, .inl hq, ?_⟩
    refine ⟨fun m σ H' => ∃ (lo hi : Nat) (mid : Option V), σ = [some (.ref o), some (.int place), some (.int lo), some (.int hi), mid] ∧ H' = H ∧ lo ≤ hi ∧ hi ≤ ns.length ∧ m = hi - lo ∧
      (∀ (i : Nat) x, ns[i]? = some x → i < lo → x < place) ∧ (∀ (i : Nat) x, ns[i]? = some x → hi ≤ i → place ≤ x), ⟨ns.length, 0, ns.length, none, ?_, rfl, Nat.zero_le _, Nat.le_refl _, rfl, fun i x _ h => by omega, fun i x e h => ?_⟩, ?_⟩
    · rw [List.length_map]
      rfl
    · have := (List.getElem?_eq_some_iff.mp e).1
      omega
    · rintro m σ H' ⟨lo, hi, mid, rfl, rfl, h1, h2, rfl, h3, h4⟩
      refine ⟨_, rfl, _, rfl, _, _, rfl, rfl, _, rfl, ?_⟩
      refine ite2 (fun hlt => ?_) (fun hlt => ?_)
      · replace hlt : lo < hi := by have := of_decide_eq_true hlt; omega
        refine ⟨fun σ' H'' => ∃ (lo' hi' : Nat) (mid : Option V), σ' = [some (.ref o), some (.int place), some (.int lo'), some (.int hi'), mid] ∧ H'' = H' ∧ lo' ≤ hi' ∧ hi' ≤ ns.length ∧ hi' - lo' < hi - lo ∧
          (∀ (i : Nat) x, ns[i]? = some x → i < lo' → x < place) ∧ (∀ (i : Nat) x, ns[i]? = some x → hi' ≤ i → place ≤ x), ?_, ?_⟩
        · rintro σ' H'' ⟨lo', hi', mid', rfl, rfl, g1, g2, g3, g4, g5⟩
          exact ⟨hi' - lo', g3, lo', hi', mid', rfl, rfl, g1, g2, rfl, g4, g5⟩
        · obtain ⟨x, hx⟩ : ∃ x, ns[(lo + hi) / 2]? = some x := ⟨ns[(lo + hi) / 2], by simp [show (lo + hi) / 2 < ns.length by omega]⟩
          have em : ((lo : Int) + (hi : Int)) / 2 = (((lo + hi) / 2 : Nat) : Int) := by omega
          refine ⟨_, rfl, _, rfl, _, _, rfl, rfl, _, _, rfl, rfl, ⟨by decide, by decide⟩, ?_⟩
          refine ⟨_, rfl, _, rfl, o, _, _, V.int x, rfl, rfl, hq, ?_, _, rfl, _, _, rfl, rfl, _, rfl, ?_⟩
          · rw [em]
            exact atI_nat (by rw [List.getElem?_map, hx]; rfl)
          · refine ite2 (fun hc => ?_) (fun hc => ?_)
            · have hc' : x < place := of_decide_eq_true hc
              refine ⟨_, rfl, _, _, rfl, rfl, (lo + hi) / 2 + 1, hi, some (.int (((lo + hi) / 2 : Nat) : Int)), ?_, rfl, by omega, h2, by omega, fun i y e g => ?_, h4⟩
              · dsimp only
                rw [em]
                rfl
              · have := le_at hs e hx (by omega)
                omega
            · have hc' : ¬ x < place := fun z => hc (decide_eq_true z)
              refine ⟨_, rfl, lo, (lo + hi) / 2, some (.int (((lo + hi) / 2 : Nat) : Int)), ?_, rfl, by omega, by omega, by omega, h3, fun i y e g => ?_⟩
              · dsimp only
                rw [em]
                rfl
              · have := le_at hs hx e (by omega)
                omega
      · have hlt' : ¬ (lo : Int) < (hi : Int) := fun z => hlt (decide_eq_true z)
        have e : lo = hi := by omega
        subst e
        exact ⟨_, rfl, k lo ⟨h2, h3, h4⟩⟩
end
end RK

set_option autoImplicit false
set_option maxRecDepth 100000
set_option linter.all false
set_option Elab.async false
set_option maxHeartbeats 8000000
namespace RK
open PySem L2
section
variable {P : Program} {w : World} {K : PySem.W.Frag} {mg : Str → Option Value} {base : Heap} {f : Addr} {fd : FuncData}
theorem scAmong : FnScope ["size", "place", "ordered", "met"] ["size", "place", "ordered"] (defScope sAmong) := ⟨rfl, rfl, rfl, by decide +kernel, rfl, by decide +kernel, by decide +kernel⟩
theorem ok_among {fc fs : Addr} {dc ds : FuncData} (F : Fun K "way_among" "way_among" sAmong f fd) (hlen : mg "len" = none) (Ac : Fn K mg "count_ahead" ["ordered", "place"] sCount fc dc) (As : Fn K mg "steps" ["size", "one", "other"] sSteps fs ds) :
    FnOk P w K mg base CX0 2 f fd ["size", "place", "ordered"] (spAmong K) := by
  have Gc : FnOk P w K mg base CX0 1 fc dc ["ordered", "place"] (spCount K) := ok_count Ac.F hlen
  have Gs : FnOk P w K mg base CX0 1 fs ds ["size", "one", "other"] spSteps := ok_steps As.F
  refine F.ok scAmong (fun vs H Q E h => ?_) (fun cdv A outer s H vs Q E hr h => ?_)
  · obtain ⟨_, _, _, _, rfl, _⟩ := h
    rfl
  · obtain ⟨size, place, o, ns, rfl, hz, hq, hs, hl, hne, k⟩ := h
    refine ⟨_, pss_cons (ps_set (i := 3) scAmong.nd rfl (Or.inl rfl) (pe_op op_mod (pe_call Gc hr rfl Ac.mgf Ac.F.kp Ac.b .nil pass0 (pa_cons (pv 2) (pa_cons (pv 1) pa_nil))) (pe_callB call_len_seq (by rfl) hlen PySem.boot_len (pa_cons (pv 2) pa_nil))))
      (pss_one (ps_ret (pe_call Gs hr rfl As.mgf As.F.kp As.b .nil pass0 (pa_cons (pv 0) (pa_cons (pv 1) (pa_cons (pe_ix ix_list (pv 2) (pv 3) (fun _ _ => rfl)) pa_nil)))))), ?_⟩
    have hpos : 0 < ns.length := List.length_pos_iff.mpr hne
    refine ⟨_, rfl, _, rfl, o, ns, place, rfl, hq, hs, hl, fun c hc => ?_⟩
    have em : (c : Int) % ((ns.map V.int).length : Int) = ((c % ns.length : Nat) : Int) := by
      rw [List.length_map]
      omega
    obtain ⟨v, hv⟩ : ∃ v, ns[c % ns.length]? = some v := ⟨ns[c % ns.length]'(Nat.mod_lt _ hpos), by simp [Nat.mod_lt _ hpos]⟩
    refine ⟨_, rfl, o, _, rfl, .inl hq, _, _, rfl, rfl, by rw [List.length_map]; omega, ?_⟩
    refine ⟨_, rfl, _, rfl, _, rfl, _, rfl, o, _, _, V.int v, rfl, rfl, hq, ?_, size, place, v, rfl, hz, k c v hc hv⟩
    rw [em]
    exact atI_nat (by rw [List.getElem?_map, hv]; rfl)
end
end RK

set_option autoImplicit false
set_option maxRecDepth 100000
set_option linter.all false
set_option Elab.async false
set_option maxHeartbeats 8000000
namespace RK
open PySem L2
section
variable {P : Program} {w : World} {K : PySem.W.Frag} {mg : Str → Option Value} {base : Heap} {f : Addr} {fd : FuncData}
theorem scPairs : FnScope ["size", "keepers", "names", "placed", "pairs", "keeper", "share", "ordered", "name", "place"] ["size", "keepers", "names"] (defScope sPairs) := ⟨rfl, rfl, rfl, by decide +kernel, rfl, by decide +kernel, by decide +kernel⟩
theorem csPairs : CScope (defScope sPairs) ["size", "keepers", "names", "placed", "pairs", "keeper", "share", "ordered", "name", "place"] ["name", "size"] [none, some 0] (compScope (retE sPairs 0)) :=
  ⟨rfl, by decide +kernel, by decide +kernel, rfl, by decide +kernel, by decide +kernel, fun j i hj h => by
    match j, hj, h with
    | 0, _, h => cases h
    | 1, _, h => cases h; exact ⟨_, rfl, rfl, by decide +kernel⟩⟩
theorem ok_pairs {fa fp fo : Addr} {da dp dq : FuncData} (F : Fun K "pairs_of" "pairs_of" sPairs f fd) (hsort : mg "sorted" = none) (Aa : Fn K mg "way_among" ["size", "place", "ordered"] sAmong fa da) (Ap : Fn K mg "place_of" ["size", "name"] sPlace fp dp) (Ao : Fn K mg "posts_of" ["size", "keeper", "share"] sPosts fo dq)
    (Ga : FnOk P w K mg base CX0 2 fa da ["size", "place", "ordered"] (spAmong K)) (Gp : FnOk P w K mg base CX0 1 fp dp ["size", "name"] spPlace) (Go : FnOk P w K mg base CX0 1 fo dq ["size", "keeper", "share"] spPosts) :
    FnOk P w K mg base CX0 3 f fd ["size", "keepers", "names"] (spPairs K) := by
  refine F.ok scPairs (fun vs H Q E h => ?_) (fun cdv A outer s H vs Q E hr h => ?_)
  · obtain ⟨_, _, _, _, _, rfl, _⟩ := h
    rfl
  · obtain ⟨size, d, l, kvs, names, rfl, hz, hd, hl, hb, hsh, hk1, hfw, q⟩ := h
    have hn1 : names.length ≤ 1000 := by
      have := hfw.2
      omega
    have hr1 := hr.mono (show 1 ≤ 2 by decide)
    refine ⟨_, pss_cons (ps_setC (i := 3) csPairs rfl rfl rfl scPairs.nd rfl rfl (pi_list (pv 2)) (fun cl s₀ H₀ fp => pg_name (i := 0) csPairs.nd rfl (Or.inl rfl) (Or.inr rfl)) (fun cl s₀ H₀ fp => pf_nil)
        (fun cl s₀ H₀ fp => pe_tup (pa_cons (pv 0) (pa_cons (pe_call Gp hr1 rfl Ap.mgf Ap.F.kp Ap.b .nil pass0 (pa_cons (pv 1) (pa_cons (pv 0) pa_nil))) pa_nil))) (by rfl))
      (pss_cons (ps_set (i := 4) scPairs.nd rfl (Or.inl rfl) (pe_lst pa_nil))
      (pss_cons (ps_forI PassesOwn.never rfl (pi_items (pv 1)) (pg_tup rfl (pgs_cons (pg_name (i := 5) scPairs.nd rfl (Or.inl rfl)) (pgs_cons (pg_name (i := 6) scPairs.nd rfl (Or.inl rfl)) pgs_nil)))
        (pss_cons (ps_set (i := 7) scPairs.nd rfl (Or.inl rfl) (pe_callB call_sortedI (by rfl) hsort (by rfl) (pa_cons (pe_call Go hr1 rfl Ao.mgf Ao.F.kp Ao.b .nil pass0 (pa_cons (pv 0) (pa_cons (pv 5) (pa_cons (pv 6) pa_nil)))) pa_nil)))
        (pss_one (ps_for PassesOwn.never rfl (pi_list (pv 3)) (pg_tup rfl (pgs_cons (pg_name (i := 8) scPairs.nd rfl (Or.inl rfl)) (pgs_cons (pg_name (i := 9) scPairs.nd rfl (Or.inl rfl)) pgs_nil)))
          (pss_one (ps_expr (pe_bm PySem.F.plainAttrs_list PySem.F.slot_list_append PySem.F.type_list_append mt_append (pv 4)
            (pa_cons (pe_tup (pa_cons (pe_call Ga hr rfl Aa.mgf Aa.F.kp Aa.b .nil pass0 (pa_cons (pv 0) (pa_cons (pv 9) (pa_cons (pv 7) pa_nil)))) (pa_cons (pv 8) (pa_cons (pv 5) pa_nil)))) pa_nil))))))))
      (pss_one (ps_ret (pe_callB call_sortedT (by rfl) hsort (by rfl) (pa_cons (pv 4) pa_nil))))))
      , ?_⟩
    -- placed
    refine ⟨_, rfl, l, rfl, ⟨_, hl⟩, fun p hp => ?_⟩
    refine comp_list (xs := names.map V.int) (fun i σ H' => ∃ v bs, σ = [v, some (.int size)] ∧ Same H H' ∧ H' p = some (.lst (bs.map V.ref)) ∧ Tups H' bs ((names.take i).map fun n => [n, RD.place size n]))
      ⟨none, [], rfl, Same.upd hp, upd_same, .nil⟩ (fun i σ H' _ ⟨_, _, _, sm, _⟩ => sm.seq hl) ?_ ?_
    · rintro i x σ H' hi ⟨v, bs, rfl, sm, hpl, tb⟩
      rw [List.getElem?_map] at hi
      obtain ⟨n, hn, rfl⟩ : ∃ n, names[i]? = some n ∧ V.int n = x := by
        cases e : names[i]? with
        | none => rw [e] at hi; cases hi
        | some n => rw [e] at hi; exact ⟨n, rfl, Option.some.inj hi⟩
      have hin := List.mem_of_getElem? hn
      have hil := (List.getElem?_eq_some_iff.mp hn).1
      refine ⟨_, rfl, _, rfl, _, rfl, size, n, rfl, hz, hb n hin, by show 2 ≤ sizeLine; decide, fun t ht => ?_⟩
      have npt : p ≠ t := ne_of_none hpl ht
      refine ⟨bs.map V.ref, by rw [upd_ne npt]; exact hpl, ?_, _, bs ++ [t], rfl, ?_, ?_, ?_⟩
      · rw [List.length_map, tb.length, List.length_map, List.length_take]
        exact small_1000 (by omega)
      · exact same_set (sm.tr ht) hp
      · rw [upd_same, List.map_append]
        rfl
      · rw [take_snoc hn, List.map_append]
        refine (tb.fresh ht).upd (fun xs e => by rw [upd_ne npt, hpl] at e; cases e) |>.snoc ?_
        rw [upd_ne npt.symm, upd_same]
        rfl
    · rintro σ H1 ⟨v, bs0, rfl, sm1, hpl1, tb1⟩
      rw [List.length_map, List.take_length] at tb1
      -- pairs = []
      refine ⟨Nat.zero_le _, fun pr hpr => ?_⟩
      have npp : p ≠ pr := ne_of_none hpl1 hpr
      have sm2 : Same H (upd H1 pr (.lst [])) := sm1.tr hpr
      have hprH : H pr = none := sm1.free hpr
      -- for keeper, share in keepers.items()
      refine ⟨d, keepD kvs, sm2 _ _ hd, _, rfl, d, _, rfl, sm2 _ _ hd, fun ob => ?_⟩
      have ndp : d ≠ p := fun z => by rw [z, hp] at hd; cases hd
      have ndpr : d ≠ pr := fun z => by rw [z, hprH] at hd; cases hd
      refine for_items (fun i σ H' => ∃ (a5 a6 a7 a8 a9 : Option V) (bs : List Addr), σ = [some (.int size), some (.ref d), some (.ref l), some (.ref p), some (.ref pr), a5, a6, a7, a8, a9] ∧ H' d = some (.frz ob (.dK (keepD kvs))) ∧ SameX d H H' ∧
          H' p = some (.lst (bs0.map V.ref)) ∧ Tups H' bs0 (names.map fun n => [n, RD.place size n]) ∧ H' pr = some (.lst (bs.map V.ref)) ∧ Tups H' bs (pairsD size (kvs.take i) names) ∧ ∀ b ∈ bs, H b = none)
        ⟨none, none, none, none, none, [], rfl, upd_same, (SameX.of sm2).trans (fun b o n e => by rw [upd_ne n]; exact e), ?_, ?_, ?_, .nil, fun b hb => by cases hb⟩ (fun i σ H' _ ⟨_, _, _, _, _, _, _, h, _⟩ => h) ?_ ?_
      · rw [upd_ne ndp.symm, upd_ne npp]
        exact hpl1
      · exact (tb1.fresh hpr).upd (fun xs e => by rw [sm2 _ _ hd] at e; cases e)
      · rw [upd_ne ndpr.symm, upd_same]
        rfl
      · -- one keeper
        rintro i ky v σ H2 t hkv ⟨a5, a6, a7, a8, a9, bs, rfl, hfz, smx, hp2, tb2, hpr2, tbs, hfr⟩ ht
        obtain ⟨⟨k, sh⟩, hks, e1⟩ : ∃ q, kvs[i]? = some q ∧ ((Sum.inl q.1 : Key), V.int (q.2 : Int)) = (ky, v) := by
          unfold keepD at hkv
          rw [List.getElem?_map] at hkv
          cases e : kvs[i]? with
          | none => rw [e] at hkv; cases hkv
          | some q => rw [e] at hkv; exact ⟨q, rfl, Option.some.inj hkv⟩
        cases e1
        have hkin := List.mem_of_getElem? hks
        have hil := (List.getElem?_eq_some_iff.mp hks).1
        obtain ⟨hs1, hs40⟩ := hsh _ hkin
        have hs2 : sh ≤ 1000 := Nat.le_trans hs40 (by decide)
        refine ⟨t, _, rfl, SqT.of upd_same, rfl, _, _, rfl, _, _, rfl, rfl, ?_⟩
        -- ordered = sorted(posts_of(..))
        refine ⟨_, rfl, _, rfl, _, rfl, size, k, sh, rfl, hz, hs2, fun pp hpp => ⟨pp, _, rfl, SqL.of upd_same, by rw [RD.posts_length]; exact Nat.lt_of_le_of_lt hs40 (by decide), fun lo ns hlo hpm hsrt => ?_⟩⟩
        have hlen : ns.length = sh := by rw [hpm.length_eq, RD.posts_length]
        obtain ⟨H3, eH3⟩ : ∃ H3, upd (upd (upd H2 t (.tup [kV (Sum.inl k), V.int (sh : Int)])) pp (.lst ((RD.posts size k sh).map V.int))) lo (.lst (ns.map V.int)) = H3 := ⟨_, rfl⟩
        have s23 : Same H2 H3 := by
          rw [← eH3]
          exact ((Same.upd ht).trans (Same.upd hpp)).trans (Same.upd hlo)
        have hlo3 : H3 lo = some (.lst (ns.map V.int)) := by rw [← eH3]; exact upd_same
        have hloH2 : H2 lo = none := by
          rcases Classical.em (H2 lo = none) with z | z
          · exact z
          · exfalso
            obtain ⟨o, e⟩ := Option.ne_none_iff_exists'.mp z
            have := (Same.upd (o := .tup [kV (Sum.inl k), V.int (sh : Int)]) ht).trans (Same.upd (o := .lst ((RD.posts size k sh).map V.int)) hpp) lo o e
            rw [hlo] at this
            cases this
        rw [eH3]
        -- for name, place in placed
        refine ⟨_, rfl, p, rfl, ⟨_, SqL.of (s23 _ _ hp2)⟩, ?_⟩
        refine for_list (xs := bs0.map V.ref) (fun j σ H' => ∃ (a8 a9 : Option V) (bs : List Addr), σ = [some (.int size), some (.ref d), some (.ref l), some (.ref p), some (.ref pr), some (.int k), some (.int (sh : Int)), some (.ref lo), a8, a9] ∧ H' d = some (.frz ob (.dK (keepD kvs))) ∧ SameX d H H' ∧
          H' p = some (.lst (bs0.map V.ref)) ∧ Tups H' bs0 (names.map fun n => [n, RD.place size n]) ∧ H' pr = some (.lst (bs.map V.ref)) ∧ Tups H' bs (pairsD size (kvs.take i) names ++ rowD size (k, sh) (names.take j)) ∧ H' lo = some (.lst (ns.map V.int)) ∧ ∀ b ∈ bs, H b = none)
          ⟨a8, a9, bs, rfl, s23 _ _ hfz, smx.trans (SameX.of s23), s23 _ _ hp2, tb2.same s23, s23 _ _ hpr2, by rw [List.take_zero]; show Tups H3 bs (pairsD size (kvs.take i) names ++ []); rw [List.append_nil]; exact tbs.same s23, hlo3, hfr⟩
          (fun j σ H' _ ⟨_, _, _, _, _, _, h, _⟩ => SqL.of h) ?_ ?_
        · rintro j y σ H4 hj ⟨a8, a9, bs, rfl, hfz4, smx4, hp4, tb4, hpr4, tbs4, hlo4, hfr4⟩
          rw [List.getElem?_map] at hj
          obtain ⟨b0, hb0, rfl⟩ : ∃ b, bs0[j]? = some b ∧ V.ref b = y := by
            cases e : bs0[j]? with
            | none => rw [e] at hj; cases hj
            | some b => rw [e] at hj; exact ⟨b, rfl, Option.some.inj hj⟩
          obtain ⟨d0, hd0, hb0t⟩ := tb4.at hb0
          rw [List.getElem?_map] at hd0
          obtain ⟨n, hn, rfl⟩ : ∃ n, names[j]? = some n ∧ [n, RD.place size n] = d0 := by
            cases e : names[j]? with
            | none => rw [e] at hd0; cases hd0
            | some n => rw [e] at hd0; exact ⟨n, rfl, Option.some.inj hd0⟩
          have hjl := (List.getElem?_eq_some_iff.mp hn).1
          refine ⟨b0, _, rfl, SqT.of hb0t, rfl, _, _, rfl, _, _, rfl, rfl, ?_⟩
          refine ⟨_, rfl, .inl ⟨rfl, _, SqL.of hpr4⟩, _, rfl, _, rfl, _, rfl, size, RD.place size n, lo, ns, rfl, hz, SqL.of hlo4, hsrt, by omega, fun e => by rw [e] at hlen; simp at hlen; omega, fun c v hc hv => ?_⟩
          refine ⟨_, rfl, _, rfl, by show 3 ≤ sizeLine; decide, fun t2 ht2 => ?_⟩
          have n1 : pr ≠ t2 := ne_of_none hpr4 ht2
          have n2 : p ≠ t2 := ne_of_none hp4 ht2
          have n3 : lo ≠ t2 := ne_of_none hlo4 ht2
          have n4 : d ≠ t2 := ne_of_none hfz4 ht2
          have n5 : lo ≠ pr := fun z => by rw [z, hpr2] at hloH2; cases hloH2
          refine ⟨pr, bs.map V.ref, _, rfl, rfl, by rw [upd_ne n1]; exact hpr4, ?_, ?_⟩
          · rw [List.length_map, tbs4.length, List.length_append, pairsD_len, List.length_take]
            have : (rowD size (k, sh) (names.take j)).length ≤ 1000 := by simp [rowD]; omega
            have h5 : min i kvs.length * names.length ≤ 1000 * 1000 := Nat.mul_le_mul (by omega) hn1
            have : 1000000 + 1000 < sizeLine := by decide
            omega
          · have hway : RD.stp size (RD.place size n) v = RD.way size n k sh := RD.near_way hz rfl hpm hsrt hc.1 hc.2.1 hc.2.2 hv
            refine ⟨_, _, bs ++ [t2], rfl, ?_, ?_, ?_, ?_, ?_, ?_, ?_, ?_⟩
            · rw [upd_ne ndpr, upd_ne n4]
              exact hfz4
            · exact (smx4.upd ht2).set hprH
            · rw [upd_ne npp, upd_ne n2]
              exact hp4
            · exact (tb4.fresh ht2).upd fun xs e => by rw [upd_ne n1, hpr4] at e; cases e
            · rw [upd_same, List.map_append]
              rfl
            · have e2 : rowD size (k, sh) (names.take (j + 1)) = rowD size (k, sh) (names.take j) ++ [[RD.way size n k sh, n, k]] := by
                unfold rowD
                rw [take_snoc hn, List.map_append]
                rfl
              rw [e2, ← List.append_assoc]
              refine ((tbs4.fresh ht2).upd fun xs e => by rw [upd_ne n1, hpr4] at e; cases e).snoc ?_
              rw [upd_ne n1.symm, upd_same, hway]
              rfl
            · rw [upd_ne n5, upd_ne n3]
              exact hlo4
            · intro b hb
              rcases List.mem_append.mp hb with hb | hb
              · exact hfr4 b hb
              · have : b = t2 := by simpa using hb
                subst this
                rcases Classical.em (H b = none) with z | z
                · exact z
                · exfalso
                  obtain ⟨o, e⟩ := Option.ne_none_iff_exists'.mp z
                  have := smx4 b o n4.symm e
                  rw [ht2] at this
                  cases this
        · rintro σ H4 ⟨a8, a9, bs, rfl, hfz4, smx4, hp4, tb4, hpr4, tbs4, hlo4, hfr4⟩
          have hbl : bs0.length = names.length := by
            have := tb1.length
            rw [List.length_map] at this
            exact this
          rw [List.length_map, hbl, List.take_length] at tbs4
          exact ⟨_, _, _, _, _, bs, rfl, hfz4, smx4, hp4, tb4, hpr4, by rw [pairsD_snoc hks]; exact tbs4, hfr4⟩
      · -- return sorted(pairs)
        rintro σ H2 ⟨a5, a6, a7, a8, a9, bs, rfl, hfz, smx, hp2, tb2, hpr2, tbs, hfr⟩
        have hkl : (keepD kvs).length = kvs.length := by simp [keepD]
        rw [hkl, List.take_length] at tbs
        have tbs' : Tups (upd H2 d (.dK (keepD kvs))) bs (pairsD size kvs names) := tbs.upd fun xs e => by rw [hfz] at e; cases e
        have hpr' : (upd H2 d (.dK (keepD kvs))) pr = some (.lst (bs.map V.ref)) := by rw [upd_ne ndpr.symm]; exact hpr2
        have sm' : Same H (upd H2 d (.dK (keepD kvs))) := fun b o e => by
          by_cases z : b = d
          · subst z
            rw [upd_same]
            rw [hd] at e
            exact e
          · rw [upd_ne z]
            exact smx b o z e
        refine ⟨ob, hfz, _, rfl, pr, bs, dataOf (upd H2 d (.dK (keepD kvs))), rfl, SqL.of hpr', fun b hb => ?_, by rw [tbs'.length, pairsD_len]; exact few_mul hfw, fun l2 bs' hl2 hpm hsrt => ?_⟩
        · obtain ⟨g1, g2⟩ := tbs'.mem b hb
          refine ⟨fun e => ?_, g1⟩
          rw [e] at g2
          unfold pairsD at g2
          obtain ⟨x, _, hx⟩ := List.mem_flatMap.mp g2
          obtain ⟨n, _, hx⟩ := List.mem_map.mp hx
          cases hx
        · refine q _ l2 bs' (bs'.map (dataOf (upd H2 d (.dK (keepD kvs))))) (sm'.tr hl2) (sm'.free hl2) upd_same (fun b hb => hfr b (hpm.mem_iff.mp hb)) ?_ ?_ hsrt
          · exact (Tups.of fun b hb => (tbs'.mem b (hpm.mem_iff.mp hb)).1).fresh hl2
          · have := hpm.map (dataOf (upd H2 d (.dK (keepD kvs))))
            rw [tbs'.map] at this
            exact this
end
end RK

set_option autoImplicit false
set_option maxRecDepth 100000
set_option linter.all false
set_option Elab.async false
set_option maxHeartbeats 8000000
namespace RK
open PySem L2
section
variable {P : Program} {w : World} {K : PySem.W.Frag} {mg : Str → Option Value} {base : Heap} {f : Addr} {fd : FuncData}
theorem scRoom : FnScope ["each", "share"] ["each", "share"] (defScope sRoom) := ⟨rfl, rfl, rfl, by decide +kernel, rfl, by decide +kernel, by decide +kernel⟩
theorem ok_room (F : Fun K "room_of" "room_of" sRoom f fd) : FnOk P w K mg base CX0 1 f fd ["each", "share"] spRoom := by
  refine F.ok scRoom (fun vs H Q E h => ?_) (fun cdv A outer s H vs Q E hr h => ?_)
  · obtain ⟨_, _, rfl, _⟩ := h
    rfl
  · obtain ⟨each, share, rfl, hz, k⟩ := h
    refine ⟨_, pss_one (ps_ret (pe_op op_mul (pv 0) (pv 1))), ?_⟩
    exact ⟨_, rfl, _, rfl, _, _, rfl, rfl, .inr hz, k⟩
end
end RK

set_option autoImplicit false
set_option maxRecDepth 100000
set_option linter.all false
set_option Elab.async false
set_option maxHeartbeats 8000000
namespace RK
open PySem L2
section
variable {P : Program} {w : World} {K : PySem.W.Frag} {mg : Str → Option Value} {base : Heap} {f : Addr} {fd : FuncData}
def spRooms : Sp := fun vs H Q _ => ∃ (each : Int) (d : Addr) (kvs : List (Int × Nat)), vs = [.int each, .ref d] ∧ H d = some (.dK (keepD kvs)) ∧ (kvs.map (·.1)).Nodup ∧ (∀ p ∈ kvs, p.2 ≤ 1000) ∧ kvs.length ≤ 1000 ∧
  ∀ (p : Addr) (H' : Hp), Same H H' → H p = none → H' p = some (.dK (roomD kvs (capK each kvs))) → Q (.ref p) H'
theorem scRooms : FnScope ["each", "keepers", "rooms", "keeper", "share"] ["each", "keepers"] (defScope sRooms) := ⟨rfl, rfl, rfl, by decide +kernel, rfl, by decide +kernel, by decide +kernel⟩
theorem roomD_snoc {each : Int} {kvs : List (Int × Nat)} (nd : (kvs.map (·.1)).Nodup) {i : Nat} {p : Int × Nat} (h : kvs[i]? = some p) :
    putK (roomD (kvs.take i) (capK each kvs)) (Sum.inl p.1 : Key) (V.int (each * (p.2 : Int))) = roomD (kvs.take (i + 1)) (capK each kvs) := by
  have hn : valV (roomD (kvs.take i) (capK each kvs)) (Sum.inl p.1 : Key) = none := by
    cases e : valV (roomD (kvs.take i) (capK each kvs)) (Sum.inl p.1 : Key) with
    | none => rfl
    | some v =>
      exfalso
      have := valV_in e
      unfold roomD at this
      rw [List.map_map] at this
      obtain ⟨x, hx, e2⟩ := List.mem_map.mp this
      have e3 : x.1 = p.1 := Sum.inl.inj e2
      obtain ⟨j, hj, e4⟩ := List.mem_take_iff_getElem.mp hx
      obtain ⟨hi, e5⟩ := List.getElem?_eq_some_iff.mp h
      have hj' : j < kvs.length := by omega
      have : (kvs.map (·.1))[j]'(by rw [List.length_map]; exact hj') = (kvs.map (·.1))[i]'(by rw [List.length_map]; exact hi) := by
        rw [List.getElem_map, List.getElem_map, e4, e5, e3]
      have := (List.getElem_inj nd).mp this
      omega
  rw [putK_new _ hn, take_snoc h]
  unfold roomD
  rw [List.map_append]
  unfold capK
  rw [List.map_cons, shareOf_mem nd (List.mem_of_getElem? h)]
  rfl
theorem ok_rooms {fr : Addr} {dr : FuncData} (F : Fun K "rooms_of" "rooms_of" sRooms f fd) (Ar : Fn K mg "room_of" ["each", "share"] sRoom fr dr) (Gr : FnOk P w K mg base CX0 1 fr dr ["each", "share"] spRoom) :
    FnOk P w K mg base CX0 2 f fd ["each", "keepers"] spRooms := by
  refine F.ok scRooms (fun vs H Q E h => ?_) (fun cdv A outer s H vs Q E hr h => ?_)
  · obtain ⟨_, _, _, rfl, _⟩ := h
    rfl
  · obtain ⟨each, d, kvs, rfl, hd, nd, hsh, hkl, q⟩ := h
    refine ⟨_, pss_cons (ps_set (i := 2) scRooms.nd rfl (Or.inl rfl) pe_dnewK)
      (pss_cons (ps_forI PassesOwn.never rfl (pi_items (pv 1)) (pg_tup rfl (pgs_cons (pg_name (i := 3) scRooms.nd rfl (Or.inl rfl)) (pgs_cons (pg_name (i := 4) scRooms.nd rfl (Or.inl rfl)) pgs_nil)))
        (pss_one (ps_dput (hu_of hr) (pv 2) (pv 3) (pe_call Gr hr rfl Ar.mgf Ar.F.kp Ar.b .nil pass0 (pa_cons (pv 0) (pa_cons (pv 4) pa_nil))) rfl)))
      (pss_one (ps_ret (pv 2)))), ?_⟩
    intro p hp
    have npd : d ≠ p := fun z => by rw [z, hp] at hd; cases hd
    have s0 : Same H (upd H p (.dK [])) := Same.upd hp
    refine ⟨d, keepD kvs, s0 _ _ hd, _, rfl, d, _, rfl, s0 _ _ hd, fun ob => ?_⟩
    refine for_items (fun i σ H' => ∃ (a3 a4 : Option V), σ = [some (.int each), some (.ref d), some (.ref p), a3, a4] ∧ H' d = some (.frz ob (.dK (keepD kvs))) ∧ SameX d H H' ∧ H' p = some (.dK (roomD (kvs.take i) (capK each kvs))))
      ⟨none, none, rfl, upd_same, (SameX.of s0).trans (fun b o n e => by rw [upd_ne n]; exact e), by rw [upd_ne npd.symm, upd_same]; rfl⟩ (fun i σ H' _ ⟨_, _, _, h, _⟩ => h) ?_ ?_
    · rintro i ky v σ H2 t hkv ⟨a3, a4, rfl, hfz, smx, hp2⟩ ht
      obtain ⟨⟨k, sh⟩, hks, e1⟩ : ∃ q, kvs[i]? = some q ∧ ((Sum.inl q.1 : Key), V.int (q.2 : Int)) = (ky, v) := by
        unfold keepD at hkv
        rw [List.getElem?_map] at hkv
        cases e : kvs[i]? with
        | none => rw [e] at hkv; cases hkv
        | some q => rw [e] at hkv; exact ⟨q, rfl, Option.some.inj hkv⟩
      cases e1
      have hkin := List.mem_of_getElem? hks
      have hil := (List.getElem?_eq_some_iff.mp hks).1
      have hs2 := hsh _ hkin
      dsimp only at hs2
      have npt : p ≠ t := ne_of_none hp2 ht
      have ndt : d ≠ t := ne_of_none hfz ht
      refine ⟨t, _, rfl, SqT.of upd_same, rfl, _, _, rfl, _, _, rfl, rfl, ?_⟩
      refine ⟨_, rfl, _, rfl, each, (sh : Int), rfl, ⟨by omega, by omega⟩, _, rfl, _, rfl, p, _, rfl, DPut.k (k := Sum.inl k) (kvs := roomD (kvs.take i) (capK each kvs)) (by rw [upd_ne npt]; exact hp2) ?_, ?_⟩
      · unfold roomD
        rw [List.length_map, List.length_take]
        exact small_1000 (by omega)
      · rw [roomD_snoc nd hks]
        refine ⟨_, _, rfl, by rw [upd_ne npd, upd_ne ndt]; exact hfz, ?_, upd_same⟩
        exact (smx.upd ht).set hp
    · rintro σ H2 ⟨a3, a4, rfl, hfz, smx, hp2⟩
      have hkl2 : (keepD kvs).length = kvs.length := by simp [keepD]
      rw [hkl2, List.take_length] at hp2
      refine ⟨ob, hfz, _, rfl, q p _ ?_ hp (by rw [upd_ne npd.symm]; exact hp2)⟩
      intro b o e
      by_cases z : b = d
      · subst z
        rw [upd_same]
        rw [hd] at e
        exact e
      · rw [upd_ne z]
        exact smx b o z e
end
end RK

set_option autoImplicit false
set_option maxRecDepth 100000
set_option linter.all false
set_option Elab.async false
set_option maxHeartbeats 8000000
namespace RK
open PySem L2
section
variable {P : Program} {w : World} {K : PySem.W.Frag} {mg : Str → Option Value} {base : Heap} {f : Addr} {fd : FuncData}
def spDeal (K : PySem.W.Frag) : Sp := fun vs H Q _ => ∃ (pl d l : Addr) (size each : Int) (kvs : List (Int × Nat)) (names : List Int), vs = [.ref pl, .ref d, .ref l] ∧ SqT K H pl [.int size, .int each] ∧ H d = some (.dK (keepD kvs)) ∧ SqL K H l (names.map V.int) ∧
  0 < size ∧ 0 ≤ each ∧ okKeep kvs ∧ (∀ n ∈ names, okNum n) ∧ names.Nodup ∧ kvs.length ≤ 14 ∧ (kvs.length ≤ 5 ∧ names.length ≤ 12 ∨ kvs.length ≤ 4 ∧ names.length ≤ 15 ∨ kvs.length + names.length ≤ 14) ∧
  ∀ (H' : Hp) (p : Addr) (bs : List Addr) (ns : List Int) (μ : Int → Option Int), Same H H' → H p = none → H' p = some (.lst (bs.map V.ref)) → (∀ b ∈ bs, H b = none) → ns.Perm names → ns.Pairwise (· ≤ ·) → Rows H' bs (ns.map fun n => (n, μ n)) →
    RD.Stab (wayK size kvs) names (kvs.map (·.1)) (capK each kvs) μ → Q (.ref p) H'
theorem scDeal : FnScope ["plan", "keepers", "names", "rooms", "dealt", "pair", "name", "keeper"] ["plan", "keepers", "names"] (defScope sDeal) := ⟨rfl, rfl, rfl, by decide +kernel, rfl, by decide +kernel, by decide +kernel⟩
theorem csDeal : CScope (defScope sDeal) ["plan", "keepers", "names", "rooms", "dealt", "pair", "name", "keeper"] ["name", "dealt"] [none, some 4] (compScope (retE sDeal 3)) :=
  ⟨rfl, by decide +kernel, by decide +kernel, rfl, by decide +kernel, by decide +kernel, fun j i hj h => by
    match j, hj, h with
    | 0, _, h => cases h
    | 1, _, h => cases h; exact ⟨_, rfl, rfl, by decide +kernel⟩⟩
theorem pairsD_mem {size : Int} {kvs : List (Int × Nat)} {names : List Int} {d : List Int} : d ∈ pairsD size kvs names ↔ ∃ p ∈ kvs, ∃ n ∈ names, d = [RD.way size n p.1 p.2, n, p.1] := by
  unfold pairsD rowD
  rw [List.mem_flatMap]
  constructor
  · rintro ⟨p, hp, h⟩
    obtain ⟨n, hn, e⟩ := List.mem_map.mp h
    exact ⟨p, hp, n, hn, e.symm⟩
  · rintro ⟨p, hp, n, hn, e⟩
    exact ⟨p, hp, List.mem_map.mpr ⟨n, hn, e.symm⟩⟩
theorem pairsD_nodup {size : Int} {names : List Int} (nn : names.Nodup) : ∀ {kvs : List (Int × Nat)}, (kvs.map (·.1)).Nodup → (pairsD size kvs names).Nodup
  | [], _ => List.nodup_nil
  | p :: r, nd => by
    rw [List.map_cons, List.nodup_cons] at nd
    have e : pairsD size (p :: r) names = rowD size p names ++ pairsD size r names := by unfold pairsD; rw [List.flatMap_cons]
    rw [e, List.nodup_append]
    refine ⟨?_, pairsD_nodup nn nd.2, fun a ha b hb => ?_⟩
    · unfold rowD List.Nodup
      rw [List.pairwise_map]
      exact nn.imp fun h z => h (by injection z with _ z; injection z)
    · intro z
      subst z
      obtain ⟨q, hq, n, hn, e1⟩ := pairsD_mem.mp hb
      unfold rowD at ha
      obtain ⟨m, hm, e2⟩ := List.mem_map.mp ha
      rw [e1] at e2
      injection e2 with _ e2
      injection e2 with _ e2
      injection e2 with e2
      exact nd.1 (by rw [e2]; exact List.mem_map_of_mem hq)
theorem deal_stab {size each : Int} {kvs : List (Int × Nat)} {names : List Int} {ds : List (List Int)} (he : 0 ≤ each) (nk : (kvs.map (·.1)).Nodup) (nn : names.Nodup) (hp : ds.Perm (pairsD size kvs names)) (hs : ds.Pairwise lexLe) :
    RD.Stab (wayK size kvs) names (kvs.map (·.1)) (capK each kvs) (RD.look (RD.greedy (ds.map toPr) (capK each kvs)).d) := by
  refine RD.greedy_stab nn (fun p => ?_) ?_ (fun k _ => ?_)
  · rw [List.mem_map]
    constructor
    · rintro ⟨d, hd, rfl⟩
      obtain ⟨q, hq, n, hn, rfl⟩ := pairsD_mem.mp (hp.mem_iff.mp hd)
      refine ⟨n, hn, q.1, List.mem_map_of_mem hq, ?_⟩
      unfold RD.pr wayK
      rw [shareOf_mem nk hq]
      rfl
    · rintro ⟨n, hn, k, hk, rfl⟩
      obtain ⟨q, hq, rfl⟩ := List.mem_map.mp hk
      refine ⟨[RD.way size n q.1 q.2, n, q.1], hp.mem_iff.mpr (pairsD_mem.mpr ⟨q, hq, n, hn, rfl⟩), ?_⟩
      unfold RD.pr wayK
      rw [shareOf_mem nk hq]
      rfl
  · rw [List.pairwise_map]
    have nd : ds.Nodup := hp.nodup_iff.mpr (pairsD_nodup nn nk)
    refine List.Pairwise.imp_of_mem ?_ (hs.and nd)
    intro a b ha hb h
    have la : ∀ x ∈ ds, x.length = 3 := fun x hx => by
      obtain ⟨q, _, n, _, rfl⟩ := pairsD_mem.mp (hp.mem_iff.mp hx)
      rfl
    rcases lex_plt (la a ha) (la b hb) h.1 with g | g
    · exact g
    · exact absurd g h.2
  · unfold capK
    exact Int.mul_nonneg he (by omega)
theorem ok_deal {fm fq : Addr} {dm dq : FuncData} (F : Fun K "deal_of" "deal_of" sDeal f fd) (hsort : mg "sorted" = none) (Am : Fn K mg "rooms_of" ["each", "keepers"] sRooms fm dm) (Aq : Fn K mg "pairs_of" ["size", "keepers", "names"] sPairs fq dq)
    (Gm : FnOk P w K mg base CX0 2 fm dm ["each", "keepers"] spRooms) (Gq : FnOk P w K mg base CX0 3 fq dq ["size", "keepers", "names"] (spPairs K)) :
    FnOk P w K mg base CX0 4 f fd ["plan", "keepers", "names"] (spDeal K) := by
  refine F.ok scDeal (fun vs H Q E h => ?_) (fun cdv A outer s H vs Q E hr h => ?_)
  · obtain ⟨_, _, _, _, _, _, _, rfl, _⟩ := h
    rfl
  · obtain ⟨pl, d, l, size, each, kvs, names, rfl, hpl, hd, hl, hz, he, hok, hno, nn, hk1, hn1, q⟩ := h
    have hr2 := hr.mono (show 2 ≤ 3 by decide)
    have hu := hu_of hr
    refine ⟨_, pss_cons (ps_set (i := 3) scDeal.nd rfl (Or.inl rfl) (pe_call Gm hr2 rfl Am.mgf Am.F.kp Am.b .nil pass0 (pa_cons (pe_ix ix_tup (pv 0) pe_int (fun _ _ => rfl)) (pa_cons (pv 1) pa_nil))))
      (pss_cons (ps_set (i := 4) scDeal.nd rfl (Or.inr rfl) pe_dnewK)
      (pss_cons (ps_for PassesOwn.never rfl (pi_list (pe_call Gq hr rfl Aq.mgf Aq.F.kp Aq.b .nil pass0 (pa_cons (pe_ix ix_tup (pv 0) pe_int (fun _ _ => rfl)) (pa_cons (pv 1) (pa_cons (pv 2) pa_nil))))) (pg_name (i := 5) scDeal.nd rfl (Or.inl rfl))
        (pss_cons (ps_set (i := 6) scDeal.nd rfl (Or.inl rfl) (pe_ix ix_tup (pv 5) pe_int (fun _ _ => rfl)))
        (pss_cons (ps_set (i := 7) scDeal.nd rfl (Or.inl rfl) (pe_ix ix_tup (pv 5) pe_int (fun _ _ => rfl)))
        (pss_one (ps_if (pw_and (pt_cmp (pc_dnotin hu (pv 6) (pv 4))) (pw_and1 (pt_cmpR op_gt (pe_dget hu (pv 3) (pv 7) (fun _ _ => rfl)) pe_int (nomark _)))).pt
          (pss_cons (ps_dput hu (pv 4) (pv 6) (pv 7) rfl) (pss_one (ps_dput hu (pv 3) (pv 7) (pe_op op_sub (pe_dget hu (pv 3) (pv 7) (fun _ _ => rfl)) pe_int) rfl))) pss_nil)))))
      (pss_one (ps_ret (pe_comp csDeal rfl rfl rfl (pi_list (pe_callB call_sortedI (by rfl) hsort (by rfl) (pa_cons (pv 2) pa_nil))) (fun cl s₀ H₀ fp => pg_name (i := 0) csDeal.nd rfl (Or.inl rfl) (Or.inr rfl)) (fun cl s₀ H₀ fp => pf_nil)
        (fun cl s₀ H₀ fp => pe_tup (pa_cons (pv 0) (pa_cons (pe_dget1 hu (pv 1) (pv 0) ⟨by rfl, by rfl, by rfl, by rfl⟩) pa_nil)))))))), ?_⟩
    refine ⟨_, rfl, pl, _, 1, V.int each, rfl, rfl, hpl, rfl, _, rfl, each, d, kvs, rfl, hd, hok.1, fun p hp => by have := (hok.2 p hp).2.2; omega, by omega, fun rm H1 sm1 hrmn hrm => ?_⟩
    intro de hde
    have sm2 : Same H (upd H1 de (.dK [])) := sm1.tr hde
    have hden : H de = none := sm1.free hde
    have nrd : rm ≠ de := ne_of_none hrm hde
    refine ⟨_, rfl, pl, _, 0, V.int size, rfl, rfl, sm2.tup hpl, rfl, _, rfl, _, rfl, size, d, l, kvs, names, rfl, hz, sm2 _ _ hd, sm2.seq hl, fun n hn => big_of (hno n hn), fun p hp => ⟨(hok.2 p hp).2.1, by have := (hok.2 p hp).2.2; omega⟩, by omega, ⟨hk1, hn1⟩,
      fun H3 p1 bs1 ds sm3 hp1n hp1 hfr1 tb1 hpm hsrt => ⟨p1, rfl, ⟨_, SqL.of hp1⟩, ?_⟩⟩
    have s3 : Same H H3 := sm2.trans sm3
    have hrm3 : H3 rm = some (.dK (roomD kvs (capK each kvs))) := sm3 _ _ ((Same.upd hde) _ _ hrm)
    have hde3 : H3 de = some (.dK []) := sm3 _ _ upd_same
    have n1r : p1 ≠ rm := fun z => by rw [z, Same.upd hde _ _ hrm] at hp1n; cases hp1n
    have n1d : p1 ≠ de := fun z => by rw [z, upd_same] at hp1n; cases hp1n
    have hlen : ∀ {i : Nat} {d0 : List Int}, ds[i]? = some d0 → ∃ q ∈ kvs, ∃ n ∈ names, d0 = [RD.way size n q.1 q.2, n, q.1] := fun h => pairsD_mem.mp (hpm.mem_iff.mp (List.mem_of_getElem? h))
    have hdl : ds.length ≤ 10000 := by
      rw [hpm.length_eq, pairsD_len]
      exact Nat.le_trans (Nat.le_of_lt (few_mul ⟨hk1, hn1⟩)) (by decide)
    refine for_list (xs := bs1.map V.ref) (fun i σ H' => ∃ (a5 a6 a7 : Option V), σ = [some (.ref pl), some (.ref d), some (.ref l), some (.ref rm), some (.ref de), a5, a6, a7] ∧ Same H H' ∧ H' p1 = some (.lst (bs1.map V.ref)) ∧ Tups H' bs1 ds ∧
        H' rm = some (.dK (roomD kvs (RD.greedy ((ds.take i).map toPr) (capK each kvs)).r)) ∧ H' de = some (.dK (dealD (RD.greedy ((ds.take i).map toPr) (capK each kvs)).d)) ∧ (RD.greedy ((ds.take i).map toPr) (capK each kvs)).d.length ≤ i)
      ⟨none, none, none, rfl, s3, hp1, tb1, by rw [List.take_zero]; exact hrm3, by rw [List.take_zero]; exact hde3, Nat.le_of_eq (by rw [List.take_zero]; rfl)⟩ (fun i σ H' _ ⟨_, _, _, _, _, h, _⟩ => SqL.of h) ?_ ?_
    · rintro i x σ H4 hi ⟨a5, a6, a7, rfl, sm4, hp4, tb4, hrm4, hde4, hgl⟩
      rw [List.getElem?_map] at hi
      obtain ⟨b, hb, rfl⟩ : ∃ b, bs1[i]? = some b ∧ V.ref b = x := by
        cases e : bs1[i]? with
        | none => rw [e] at hi; cases hi
        | some b => rw [e] at hi; exact ⟨b, rfl, Option.some.inj hi⟩
      obtain ⟨d0, hd0, hbt⟩ := tb4.at hb
      obtain ⟨q0, hq0, n, hn, rfl⟩ := hlen hd0
      obtain ⟨k, sh⟩ := q0
      have hkk : k ∈ kvs.map (·.1) := List.mem_map_of_mem (f := (·.1)) hq0
      have hstep : RD.greedy ((ds.take (i + 1)).map toPr) (capK each kvs) = (RD.greedy ((ds.take i).map toPr) (capK each kvs)).step (RD.way size n k sh, n, k) := by
        rw [take_snoc hd0, List.map_append]
        exact RD.greedy_snoc _ _ _
      rw [hstep]
      obtain ⟨g, hg⟩ : ∃ g, RD.greedy ((ds.take i).map toPr) (capK each kvs) = g := ⟨_, rfl⟩
      rw [hg] at hrm4 hde4 hgl ⊢
      have hil : i < ds.length := (List.getElem?_eq_some_iff.mp hd0).1
      refine ⟨_, rfl, b, _, 1, V.int n, rfl, rfl, SqT.of hbt, rfl, _, rfl, b, _, 2, V.int k, rfl, rfl, SqT.of hbt, rfl, ?_⟩
      refine ⟨_, rfl, _, rfl, de, _, rfl, DGet.k (k := Sum.inl n) hde4, _, rfl, ?_⟩
      rw [dealD_get, Option.isSome_map, look_has g.d g.r n]
      have hgg : RD.GS.has ⟨g.d, g.r⟩ n = g.has n := rfl
      rw [hgg]
      have hget := DGet.k (k := Sum.inl k) hrm4
      rw [roomD_get hkk] at hget
      have stay : ¬ (g.has n = false ∧ 0 < g.r k) → g.step (RD.way size n k sh, n, k) = g := fun h => if_neg h
      cases hhas : g.has n with
      | true =>
        rw [stay (fun h => by rw [hhas] at h; cases h.1)]
        exact ⟨_, _, _, rfl, sm4, hp4, tb4, hrm4, hde4, by omega⟩
      | false =>
        refine iteT ⟨_, rfl, _, rfl, rm, _, rfl, hget, _, _, rfl, rfl, _, rfl, ite2 (fun hc => ?_) (fun hc => ?_)⟩
        · have hc' : 0 < g.r k := of_decide_eq_true hc
          have hst : g.step (RD.way size n k sh, n, k) = ⟨g.d ++ [(n, k)], fun j => if j = k then g.r j - 1 else g.r j⟩ := if_pos ⟨hhas, hc'⟩
          have hlk : RD.look g.d n = none := by
            have := look_has g.d g.r n
            rw [hgg, hhas] at this
            cases e : RD.look g.d n with
            | none => rfl
            | some z => rw [e] at this; cases this
          refine ⟨_, rfl, _, rfl, _, rfl, de, _, rfl, DPut.k (k := Sum.inl n) hde4 ?_, ?_⟩
          · unfold dealD
            rw [List.length_map]
            exact big_size (by omega)
          rw [dealD_put hlk]
          have hget2 : DGet (upd H4 de (.dK (dealD (g.d ++ [(n, k)])))) rm (.int k) (some (.int (g.r k))) := by
            have := DGet.k (k := Sum.inl k) (show (upd H4 de (.dK (dealD (g.d ++ [(n, k)])))) rm = some (.dK (roomD kvs g.r)) by rw [upd_ne nrd]; exact hrm4)
            rw [roomD_get hkk] at this
            exact this
          refine ⟨_, rfl, _, rfl, rm, _, rfl, hget2, _, _, rfl, rfl, _, rfl, _, rfl, rm, _, rfl, DPut.k (k := Sum.inl k) (show (upd H4 de (.dK (dealD (g.d ++ [(n, k)])))) rm = some (.dK (roomD kvs g.r)) by rw [upd_ne nrd]; exact hrm4) ?_, ?_⟩
          · unfold roomD
            rw [List.length_map]
            exact small_1000 (by omega)
          rw [roomD_put hkk, hst]
          refine ⟨_, _, _, rfl, same_set (same_set sm4 hden) hrmn, by rw [upd_ne n1r, upd_ne n1d]; exact hp4, ?_, ?_, ?_, ?_⟩
          · refine (tb4.upd fun xs e => by rw [hde4] at e; cases e).upd fun xs e => by rw [upd_ne nrd, hrm4] at e; cases e
          · rw [upd_same]
            congr 3
            funext j
            show (if j = k then g.r k - 1 else g.r j) = (if j = k then g.r j - 1 else g.r j)
            by_cases z : j = k
            · subst z
              rfl
            · rw [if_neg z, if_neg z]
          · rw [upd_ne nrd.symm, upd_same]
          · rw [List.length_append]
            simp
            omega
        · have hc' : ¬ 0 < g.r k := fun z => hc (decide_eq_true z)
          rw [stay (fun h => hc' h.2)]
          exact ⟨_, _, _, rfl, sm4, hp4, tb4, hrm4, hde4, by omega⟩
    · rintro σ H4 ⟨a5, a6, a7, rfl, sm4, hp4, tb4, hrm4, hde4, hgl⟩
      have hbl : (bs1.map V.ref).length = ds.length := by rw [List.length_map, tb1.length]
      rw [hbl, List.take_length] at hde4
      have S := deal_stab (each := each) he hok.1 nn hpm hsrt
      obtain ⟨g, hg⟩ : ∃ g, RD.greedy (ds.map toPr) (capK each kvs) = g := ⟨_, rfl⟩
      rw [hg] at hde4 S
      refine ⟨_, rfl, l, names, rfl, sm4.seq hl, by omega, fun l9 ns hl9 hpn hsn => ⟨l9, rfl, ⟨_, SqL.of upd_same⟩, fun pz hpz => ?_⟩⟩
      have s5 : Same H4 (upd H4 l9 (.lst (ns.map V.int))) := Same.upd hl9
      have n9 : l9 ≠ pz := ne_of_none upd_same hpz
      have hpzn : H pz = none := (sm4.trans s5).free hpz
      refine comp_list (xs := ns.map V.int) (fun i σ H' => ∃ v bs, σ = [v, some (.ref de)] ∧ Same H H' ∧ H' de = some (.dK (dealD g.d)) ∧ H' l9 = some (.lst (ns.map V.int)) ∧ H' pz = some (.lst (bs.map V.ref)) ∧ Rows H' bs ((ns.take i).map fun n => (n, RD.look g.d n)) ∧ ∀ b ∈ bs, H b = none)
        ⟨none, [], rfl, (sm4.trans s5).tr hpz, Same.upd hpz _ _ (s5 _ _ hde4), Same.upd hpz _ _ upd_same, upd_same, .nil, fun b hb => by cases hb⟩ (fun i σ H' _ ⟨_, _, _, _, _, h, _⟩ => SqL.of h) ?_ ?_
      · rintro i x σ H5 hi ⟨v, bs, rfl, sm5, hde5, hl5, hpz5, rw5, hf5⟩
        obtain ⟨n, hn, hin, hil, rfl⟩ := int_at hi
        refine ⟨_, rfl, _, rfl, de, rfl, .inl ⟨_, .inl hde5⟩, _, rfl, _, DGet.k (k := Sum.inl n) hde5, by show 2 ≤ sizeLine; decide, fun t ht => ?_⟩
        rw [optV_look]
        have npt : pz ≠ t := ne_of_none hpz5 ht
        have ndt : de ≠ t := ne_of_none hde5 ht
        have nlt : l9 ≠ t := ne_of_none hl5 ht
        refine ⟨bs.map V.ref, by rw [upd_ne npt]; exact hpz5, ?_, _, bs ++ [t], rfl, same_set (sm5.tr ht) hpzn, ?_, ?_, ?_, ?_, ?_⟩
        · rw [List.length_map, rw5.length, List.length_map, List.length_take]
          have := hpn.length_eq
          exact small_1000 (by omega)
        · rw [upd_ne (fun z => by rw [z, hpz5] at hde5; cases hde5), upd_ne ndt]
          exact hde5
        · rw [upd_ne n9, upd_ne nlt]
          exact hl5
        · rw [upd_same, List.map_append]
          rfl
        · rw [take_snoc hn, List.map_append]
          refine ((rw5.fresh ht).upd fun xs e => by rw [upd_ne npt, hpz5] at e; cases e).snoc ?_
          rw [upd_ne npt.symm, upd_same]
        · intro b hb
          rcases List.mem_append.mp hb with hb | hb
          · exact hf5 b hb
          · have := List.mem_singleton.mp hb
            subst this
            exact sm5.free ht
      · rintro σ H5 ⟨v, bs, rfl, sm5, hde5, hl5, hpz5, rw5, hf5⟩
        rw [List.length_map, List.take_length] at rw5
        exact q H5 pz bs ns (RD.look g.d) sm5 hpzn hpz5 hf5 hpn hsn rw5 S
end
end RK

set_option autoImplicit false
set_option maxRecDepth 100000
set_option linter.all false
set_option Elab.async false
set_option maxHeartbeats 8000000
namespace RK
open PySem
open L2 hiding pv pe_bltn pe_int pe_bl pe_non pe_str pe_lst pe_tup pe_op pe_ix pe_callB pe_callTy pe_call pe_cmp pe_cmpR pe_and pe_one pe_not pe_slice pe_dget pe_dget1 pe_dnewK pe_bm pt_cmp pt_cmpR pt_not pt_val pw_or pw_or1 pw_and pw_and1 pa_nil pa_cons pa_int pa_nm pa_bin pa_sub pa_call pa_tup pss_cons pss_one pss_nil ps_set ps_if ps_for ps_ret ps_expr ps_dput pg_name pg_tup pgs_nil pgs_cons pi_list pi_tup pi_range1 po_none po_some pc_isN pe_comp ps_setC pf_nil pf_one pc_din pc_dnotin pc_notN PE PT PW PA PS PSs PC PG PGs PI PO PF
open R hiding ok
section
variable {P : Program} {w : World} {K : PySem.W.Frag} {mg : Str → Option Value} {base : Heap} {f : Addr} {fd : FuncData}
def spMoves (K : PySem.W.Frag) : Sp := fun vs H Q _ => ∃ (a b : Addr) (bs cs : List Addr) (rs qs : List Row), vs = [.ref a, .ref b] ∧ SqL K H a (bs.map V.ref) ∧ Rows H bs rs ∧ SqL K H b (cs.map V.ref) ∧ Rows H cs qs ∧ (rs.map (·.1)).Nodup ∧ qs.length ≤ 1000 ∧ rs.length ≤ 1000 ∧
  ∀ (p : Addr) (ts : List Addr) (H' : Hp), Same H H' → H p = none → H' p = some (.lst (ts.map V.ref)) → (∀ t ∈ ts, H t = none) → Movs H' ts (movK rs qs) → Q (.ref p) H'
theorem scMoves : FnScope ["before", "after", "earlier"] ["before", "after"] (defScope sMoves) := ⟨rfl, rfl, rfl, by decide +kernel, rfl, by decide +kernel, by decide +kernel⟩
theorem csMoves : CScope (defScope sMoves) ["before", "after", "earlier"] ["name", "keeper", "earlier"] [none, none, some 2] (compScope (retE sMoves 1)) :=
  ⟨rfl, by decide +kernel, by decide +kernel, rfl, by decide +kernel, by decide +kernel, fun j i hj h => by
    match j, hj, h with
    | 0, _, h => cases h
    | 1, _, h => cases h
    | 2, _, h => cases h; exact ⟨_, rfl, rfl, by decide +kernel⟩⟩
theorem ok_moves (F : Fun K "moves" "moves" sMoves f fd) (B : Blt mg) : FnOk P w K mg base CX0 1 f fd ["before", "after"] (spMoves K) := by
  refine R.ok F scMoves (fun vs H Q E h => ?_) (fun cdv A outer s H vs Q E hr h => ?_)
  · obtain ⟨_, _, _, _, _, _, rfl, _⟩ := h
    rfl
  · obtain ⟨a, b, bs, cs, rs, qs, rfl, ha, hrs, hb, hqs, nd, hl, hl2, q⟩ := h
    have hu := hu_of hr
    refine ⟨_, (pss_cons (ps_set (i := 2) scMoves.nd rfl (Or.inr rfl) (pe_callTy (call_dictP rfl) (by rfl) B.dict (by rfl) (pa_nm (pv 0) pa_nil))) <|
      pss_one (ps_ret (pe_comp csMoves rfl rfl rfl (pi_list (pv 1)) (fun cl s₀ H₀ fp => pg_tupC (K := K) (n := 2) rfl rfl (pgs_cons (pg_name (i := 0) csMoves.nd rfl (Or.inl rfl) (Or.inr rfl)) (pgs_cons (pg_name (i := 1) csMoves.nd rfl (Or.inl rfl) (Or.inr rfl)) pgs_nil))) (fun cl s₀ H₀ fp => pf_one (pt_cmpR op_ne (pe_dget1 hu (pv 2) (pv 0) ⟨by rfl, by rfl, by rfl, by rfl⟩) (pv 1) (nomark _))) (fun cl s₀ H₀ fp => pe_tup (pa_nm (pv 0) (pa_call (pe_dget1 hu (pv 2) (pv 0) ⟨by rfl, by rfl, by rfl, by rfl⟩) (pa_nm (pv 1) pa_nil))))))), ?_⟩
    refine ⟨_, rfl, a, bs, rowsD rs, rfl, ha, ?_, ?_, fun d hd => ?_⟩
    · exact rows_pairs hrs
    · exact rowsD_nd nd
    have s0 : Same H (upd H d (.dK (rowsD rs))) := Same.upd hd
    refine ⟨_, rfl, b, rfl, ⟨_, s0.seq hb⟩, fun z hz => ?_⟩
    have nzd : d ≠ z := ne_of_none upd_same hz
    have hzH : H z = none := s0.free hz
    refine comp_list (xs := cs.map V.ref) (fun i σ H' => ∃ v0 v1 ts, σ = [v0, v1, some (.ref d)] ∧ Same H H' ∧ H' d = some (.dK (rowsD rs)) ∧ H' z = some (.lst (ts.map V.ref)) ∧ (∀ t ∈ ts, H t = none) ∧ Movs H' ts (movK rs (qs.take i)))
      ⟨none, none, [], rfl, s0.tr hz, by rw [upd_ne nzd, upd_same], upd_same, (fun t ht => (nomatch ht)), .nil⟩ (fun i σ H' _ ⟨_, _, _, _, sm, _⟩ => sm.seq hb) ?_ ?_
    · rintro i x σ H1 hi ⟨v0, v1, ts, rfl, sm, hd1, hz1, hts, ms⟩
      obtain ⟨c, hc, rfl⟩ := ref_at hi
      obtain ⟨r, hr0, hct⟩ := (hqs.same sm).at hc
      refine ⟨c, _, rfl, SqT.of hct, rfl, _, _, rfl, _, _, rfl, rfl, ?_⟩
      refine ⟨_, rfl, d, rfl, .inl ⟨_, .inl hd1⟩, _, rfl, _, DGet.k (k := Sum.inl r.1) hd1, _, rfl, ?_, _, rfl, ?_⟩
      · rw [rowsD_get]
        exact opt_scal2 _ _
      rw [rowsD_get, opt_dec2, movK_snoc hr0]
      refine ite2 (fun hc => ?_) (fun hc => ?_)
      · rw [if_pos hc]
        refine ⟨_, rfl, _, rfl, d, rfl, .inl ⟨_, .inl hd1⟩, _, rfl, _, DGet.k (k := Sum.inl r.1) hd1, _, rfl, by show 3 ≤ sizeLine; decide, fun t ht => ?_⟩
        rw [rowsD_get]
        have nzt : z ≠ t := ne_of_none hz1 ht
        have ndt : d ≠ t := ne_of_none hd1 ht
        refine ⟨ts.map V.ref, by rw [upd_ne nzt]; exact hz1, ?_, _, _, ts ++ [t], rfl, same_set (sm.tr ht) hzH, ?_, ?_, ?_, ?_⟩
        · rw [List.length_map, ms.length]
          have h1 := movK_len rs (qs.take i)
          rw [List.length_take] at h1
          exact small_1000 (by omega)
        · rw [upd_ne nzd, upd_ne ndt]
          exact hd1
        · rw [upd_same, List.map_append]
          rfl
        · intro u hu'
          rcases List.mem_append.mp hu' with hu' | hu'
          · exact hts u hu'
          · rw [List.mem_singleton.mp hu']
            exact sm.free ht
        · refine Movs.snoc ((ms.fresh ht).upd fun xs e => ?_) ?_
          · rw [upd_ne nzt, hz1] at e
            cases e
          · rw [upd_ne nzt.symm, upd_same]
      · rw [if_neg hc, List.append_nil]
        exact ⟨_, _, ts, rfl, sm, hd1, hz1, hts, ms⟩
    · rintro σ H1 ⟨v0, v1, ts, rfl, sm, hd1, hz1, hts, ms⟩
      have e : (cs.map V.ref).length = qs.length := by rw [List.length_map, hqs.length]
      rw [e, List.take_length] at ms
      exact q z ts H1 sm hzH hz1 hts ms
end
end RK

set_option autoImplicit false
set_option maxRecDepth 100000
set_option linter.all false
set_option Elab.async false
set_option maxHeartbeats 8000000
namespace RK
open PySem
open L2 hiding pv pe_bltn pe_int pe_bl pe_non pe_str pe_lst pe_tup pe_op pe_ix pe_callB pe_callTy pe_call pe_cmp pe_cmpR pe_and pe_one pe_not pe_slice pe_dget pe_dget1 pe_dnewK pe_bm pt_cmp pt_cmpR pt_not pt_val pw_or pw_or1 pw_and pw_and1 pa_nil pa_cons pa_int pa_nm pa_bin pa_sub pa_call pa_tup pss_cons pss_one pss_nil ps_set ps_if ps_for ps_ret ps_expr ps_dput pg_name pg_tup pgs_nil pgs_cons pi_list pi_tup pi_range1 po_none po_some pc_isN pe_comp ps_setC pf_nil pf_one pc_din pc_dnotin pc_notN pe_dget2 pe_dpop1 pe_un pe_fld ps_fld pi_range2 pe_meth pe_meth0 pe_make PE PT PW PA PS PSs PC PG PGs PI PO PF
open R hiding ok
section
variable {P : Program} {w : World} {K : PySem.W.Frag} {mg : Str → Option Value} {base : Heap} {f : Addr} {fd : FuncData}
/-! ### the class -/
structure Txt (K : PySem.W.Frag) (mg : Str → Option Value) (C : Addr) : Prop where
  cl : Cls K C
  nP : NoAttr K C "plan"
  nS : NoAttr K C "shares"
  nN : NoAttr K C "names"
  nR : NoAttr K C "rows"
  mgC : mg "Story" = some (.ref C)
theorem fl_plan (pl d l p : Addr) : (flds pl d l p).lookup ("plan" : Str) = some (.ref pl) := rfl
theorem fl_shares (pl d l p : Addr) : (flds pl d l p).lookup ("shares" : Str) = some (.ref d) := rfl
theorem fl_names (pl d l p : Addr) : (flds pl d l p).lookup ("names" : Str) = some (.ref l) := rfl
theorem fl_rows (pl d l p : Addr) : (flds pl d l p).lookup ("rows" : Str) = some (.ref p) := rfl
theorem fl_put (pl d l p p' : Addr) : putF "rows" (.ref p') (flds pl d l p) = flds pl d l p' := rfl
theorem fl_no1 (pl d l p : Addr) : (flds pl d l p).lookup ("deal_anew" : Str) = none := rfl
theorem fl_no2 (pl d l p : Addr) : (flds pl d l p).lookup ("need_name" : Str) = none := rfl
theorem fl_no3 (pl d l p : Addr) : (flds pl d l p).lookup ("come" : Str) = none := rfl
theorem fl_no4 (pl d l p : Addr) : (flds pl d l p).lookup ("leave" : Str) = none := rfl
theorem fl_no5 (pl d l p : Addr) : (flds pl d l p).lookup ("put" : Str) = none := rfl
theorem fl_no6 (pl d l p : Addr) : (flds pl d l p).lookup ("drop" : Str) = none := rfl
theorem fl_no7 (pl d l p : Addr) : (flds pl d l p).lookup ("where" : Str) = none := rfl
def spInit (C : Addr) : Sp := fun vs H Q _ => ∃ (x dx pl : Addr), vs = [.ref x, .ref pl] ∧ H x = some (.ins C dx []) ∧
  ∀ (d l p : Addr) (H' : Hp), H' x = some (.ins C dx (flds pl d l p)) → H' d = some (.dK []) → H' l = some (.lst []) → H' p = some (.lst []) → H d = none → H l = none → H p = none → l ≠ p → (∀ b o, H b = some o → b ≠ x → H' b = some o) → Q .non H'
theorem scInit : FnScope ["self", "plan"] ["self", "plan"] (defScope sInit) := ⟨rfl, rfl, rfl, by decide +kernel, rfl, by decide +kernel, by decide +kernel⟩
theorem ok_init {C : Addr} (F : Fun K "__init__" "Story.__init__" sInit f fd) (T : Txt K mg C) : FnOk P w K mg base CX0 1 f fd ["self", "plan"] (spInit C) := by
  refine R.ok F scInit (fun vs H Q E h => ?_) (fun cdv A outer s H vs Q E hr h => ?_)
  · obtain ⟨_, _, _, rfl, _⟩ := h
    rfl
  · obtain ⟨x, dx, pl, rfl, hx, q⟩ := h
    refine ⟨_, (pss_cons (ps_fld (pv 0) (pv 1)) <|
      pss_cons (ps_fld (pv 0) (pe_dnewK)) <|
      pss_cons (ps_fld (pv 0) (pe_lst pa_nil)) <|
      pss_one (ps_fld (pv 0) (pe_lst pa_nil))), ?_⟩
    refine ⟨_, rfl, _, rfl, x, C, dx, [], rfl, hx, T.cl, T.nP, (by show 0 < 1000; decide), ?_⟩
    intro d hd
    have nxd : x ≠ d := ne_of_none upd_same hd
    have hdH : H d = none := by rw [upd_ne nxd.symm] at hd; exact hd
    refine ⟨_, rfl, x, C, dx, _, rfl, by rw [upd_ne nxd, upd_same], T.cl, T.nS, (by show 1 < 1000; decide), ?_⟩
    refine ⟨Nat.zero_le _, fun l hl => ?_⟩
    have nxl : x ≠ l := ne_of_none upd_same hl
    have ndl : d ≠ l := by
      refine ne_of_none (o := .dK []) ?_ hl
      rw [upd_ne nxd.symm, upd_same]
    have hlH : H l = none := by rw [upd_ne nxl.symm, upd_ne ndl.symm, upd_ne nxl.symm] at hl; exact hl
    refine ⟨_, rfl, x, C, dx, _, rfl, by rw [upd_ne nxl, upd_same], T.cl, T.nN, (by show 2 < 1000; decide), ?_⟩
    refine ⟨Nat.zero_le _, fun p hp => ?_⟩
    have nxp : x ≠ p := ne_of_none upd_same hp
    have nlp : l ≠ p := by
      refine ne_of_none (o := .lst []) ?_ hp
      rw [upd_ne nxl.symm, upd_same]
    have ndp : d ≠ p := by
      refine ne_of_none (o := .dK []) ?_ hp
      rw [upd_ne nxd.symm, upd_ne ndl, upd_ne nxd.symm, upd_same]
    have hpH : H p = none := by rw [upd_ne nxp.symm, upd_ne nlp.symm, upd_ne nxp.symm, upd_ne ndp.symm, upd_ne nxp.symm] at hp; exact hp
    refine ⟨_, rfl, x, C, dx, _, rfl, by rw [upd_ne nxp, upd_same], T.cl, T.nR, (by show 3 < 1000; decide), ?_⟩
    refine q d l p _ upd_same ?_ ?_ ?_ hdH hlH hpH nlp fun b o e hb => ?_
    · rw [upd_ne nxd.symm, upd_ne ndp, upd_ne nxd.symm, upd_ne ndl, upd_ne nxd.symm, upd_same]
    · rw [upd_ne nxl.symm, upd_ne nlp, upd_ne nxl.symm, upd_same]
    · rw [upd_ne nxp.symm, upd_same]
    · rw [upd_ne hb, upd_ne (ne_of_none e hpH), upd_ne hb, upd_ne (ne_of_none e hlH), upd_ne hb, upd_ne (ne_of_none e hdH), upd_ne hb]
      exact e
/-- behind a change: dealt anew, the moves -/
def Aft (K : PySem.W.Frag) (C : Addr) (H : Hp) (x pl d l : Addr) (size each : Int) (kvs : List (Int × Nat)) (names : List Int) (rs : List Row) (Q : VK) : Prop :=
  ∀ (H' : Hp) (p : Addr) (bs : List Addr) (pm : Addr) (ts : List Addr), SAt K C H' x pl d l p size each kvs names bs (dealOf size each kvs names) → IsDeal size each kvs names (dealOf size each kvs names) → Kept x d l H H' → H p = none → H pm = none → H' pm = some (.lst (ts.map V.ref)) → Movs H' ts (movK rs (dealOf size each kvs names)) → Q (.ref pm) H'
def spAnew (K : PySem.W.Frag) (C : Addr) : Sp := fun vs H Q _ => ∃ (x pl d l p : Addr) (size each : Int) (kvs : List (Int × Nat)) (names : List Int) (bs : List Addr) (rs : List Row), vs = [.ref x] ∧ SAt K C H x pl d l p size each kvs names bs rs ∧ (rs.map (·.1)).Nodup ∧ rs.length ≤ 100 ∧
  0 < size ∧ 0 ≤ each ∧ Fit kvs names ∧ kvs.length ≤ 100 ∧ names.length ≤ 100 ∧ Aft K C H x pl d l size each kvs names rs Q
theorem scAnew : FnScope ["self", "before"] ["self"] (defScope sAnew) := ⟨rfl, rfl, rfl, by decide +kernel, rfl, by decide +kernel, by decide +kernel⟩
theorem ok_anew {C : Addr} (F : Fun K "deal_anew" "Story.deal_anew" sAnew f fd) (T : Txt K mg C) (h1 : Has P w K mg base "deal_of" ["plan", "keepers", "names"] sDeal 4 (spDeal K)) (h2 : Has P w K mg base "moves" ["before", "after"] sMoves 1 (spMoves K)) : FnOk P w K mg base CX0 5 f fd ["self"] (spAnew K C) := by
  obtain ⟨fe, dfe, Ad, Gd⟩ := h1
  obtain ⟨fm, dfm, Am, Gm⟩ := h2
  refine R.ok F scAnew (fun vs H Q E h => ?_) (fun cdv A outer s H vs Q E hr h => ?_)
  · obtain ⟨_, _, _, _, _, _, _, _, _, _, _, rfl, _⟩ := h
    rfl
  · obtain ⟨x, pl, d, l, p, size, each, kvs, names, bs, rs, rfl, S, nd, hl1, hz, he, ft, hk, hn, q⟩ := h
    have hr1 := hr.mono (show 1 ≤ 4 by decide)
    obtain ⟨⟨dx, hx⟩, htp, hdc, hnm, hrw, hrs, hlp⟩ := id S
    refine ⟨_, (pss_cons (ps_set (i := 1) scAnew.nd rfl (Or.inl rfl) (pe_fld (pv 0))) <|
      pss_cons (ps_fld (pv 0) (pe_call Gd hr (by rfl) Ad.mgf Ad.F.kp Ad.b .nil pass0 (pa_att (pe_fld (pv 0)) (pa_att (pe_fld (pv 0)) (pa_att (pe_fld (pv 0)) pa_nil))))) <|
      pss_one (ps_ret (pe_call Gm hr1 (by rfl) Am.mgf Am.F.kp Am.b .nil pass0 (pa_nm (pv 1) (pa_att (pe_fld (pv 0)) pa_nil))))), ?_⟩
    refine ⟨_, rfl, x, C, dx, _, _, rfl, hx, T.cl, T.nR, fl_rows _ _ _ _, ?_⟩
    refine ⟨_, rfl, x, C, dx, _, _, rfl, hx, T.cl, T.nP, fl_plan _ _ _ _, _, rfl, x, C, dx, _, _, rfl, hx, T.cl, T.nS, fl_shares _ _ _ _, _, rfl, x, C, dx, _, _, rfl, hx, T.cl, T.nN, fl_names _ _ _ _, pl, d, l, size, each, kvs, names, rfl, htp, hdc, SqL.of hnm, hz, he, ft.ok, ft.no, ft.nd, ft.fw.1, ft.fw.2,
      fun H1 p' bs' ns μ sm hpn hp' hfr hpm hsrt rs1 St => ?_⟩
    have D : IsDeal size each kvs names (ns.map fun n => (n, μ n)) := ⟨ns, μ, rfl, hpm, hsrt, St⟩
    have hx1 := sm _ _ hx
    refine ⟨_, rfl, x, C, dx, _, rfl, hx1, T.cl, T.nR, (by show 4 < 1000; decide), ?_⟩
    rw [fl_put]
    have nxp : x ≠ p' := ne_of_none hx hpn
    have kx : ∀ b o, b ≠ x → H1 b = some o → (upd H1 x (.ins C dx (flds pl d l p'))) b = some o := fun b o hb e => by rw [upd_ne hb]; exact e
    have nx : ∀ {b : Addr} {o : HO}, H1 b = some o → (∀ C dx fs, o ≠ .ins C dx fs) → b ≠ x := fun e ho z => by
      rw [z, hx1] at e
      exact ho _ _ _ (Option.some.inj e).symm
    have rowsX : ∀ {bs : List Addr} {rs : List Row}, Rows H1 bs rs → Rows (upd H1 x (.ins C dx (flds pl d l p'))) bs rs := fun h => h.upd fun xs e => by rw [hx1] at e; cases e
    have sqX : ∀ {a : Addr} {xs : List V}, H1 a = some (.lst xs) → (upd H1 x (.ins C dx (flds pl d l p'))) a = some (.lst xs) := fun e => kx _ _ (nx e fun _ _ _ z => by cases z) e
    obtain ⟨H2, eH2⟩ : ∃ H2, upd H1 x (.ins C dx (flds pl d l p')) = H2 := ⟨_, rfl⟩
    have hx2 : H2 x = some (.ins C dx (flds pl d l p')) := by rw [← eH2]; exact upd_same
    rw [eH2] at kx rowsX sqX ⊢
    refine ⟨_, rfl, _, rfl, x, C, dx, _, _, rfl, hx2, T.cl, T.nR, fl_rows _ _ _ _, p, p', bs, bs', rs, _, rfl, SqL.of (sqX (sm _ _ hrw)), rowsX (hrs.same sm), SqL.of (sqX hp'), rowsX rs1, nd, by rw [List.length_map, hpm.length_eq]; omega, by omega, fun pm ts H3 s3 hpmn hpm3 _ ms => ?_⟩
    have e := D.eq
    rw [e] at ms rs1 D
    have htp2 : SqT K H2 pl [.int size, .int each] := by
      rcases sm.tup htp with (h | ⟨o, h⟩) | h
      · exact .inl (.inl (kx _ _ (nx h fun _ _ _ z => by cases z) h))
      · exact .inl (.inr ⟨o, kx _ _ (nx h fun _ _ _ z => by cases z) h⟩)
      · exact .inr h
    refine q H3 p' bs' pm ts ⟨⟨dx, s3 _ _ hx2⟩, s3.tup htp2, s3 _ _ (kx _ _ (nx (sm _ _ hdc) fun _ _ _ z => by cases z) (sm _ _ hdc)), s3 _ _ (sqX (sm _ _ hnm)), s3 _ _ (sqX hp'), (rowsX rs1).same s3, ne_of_none hnm hpn⟩ D
      (fun b o h1 _ _ h => s3 _ _ (kx b o h1 (sm _ _ h))) hpn ?_ hpm3 ms
    cases z : H pm with
    | none => rfl
    | some o =>
      exfalso
      by_cases zz : pm = x
      · rw [zz, hx2] at hpmn
        cases hpmn
      · rw [kx _ _ zz (sm _ _ z)] at hpmn
        cases hpmn
def spDeed (K : PySem.W.Frag) (C : Addr) (args : Deed → Option (List V)) : Sp := fun vs H Q _ => ∃ (x pl d l p : Addr) (size each : Int) (kvs : List (Int × Nat)) (names : List Int) (bs : List Addr) (rs : List Row) (dd : Deed) (as : List V), vs = .ref x :: as ∧ args dd = some as ∧ SAt K C H x pl d l p size each kvs names bs rs ∧ IsDeal size each kvs names rs ∧
  0 < size ∧ 0 ≤ each ∧ Fit kvs names ∧ kvs.length < 100 ∧ names.length < 100 ∧ dd.good kvs names ∧ Aft K C H x pl d l size each (dd.kv kvs) (dd.nm names) rs Q
theorem SAt.keep {H : Hp} {C x pl d l p : Addr} {size each : Int} {kvs kvs' : List (Int × Nat)} {names : List Int} {bs : List Addr} {rs : List Row} (h : SAt K C H x pl d l p size each kvs names bs rs) : SAt K C (upd H d (.dK (keepD kvs'))) x pl d l p size each kvs' names bs rs := by
  obtain ⟨⟨dx, h1⟩, h2, h3, h4, h5, h6, h7⟩ := h
  have nd : ∀ {b : Addr} {o : HO}, H b = some o → (∀ kvs, o ≠ .dK kvs) → b ≠ d := fun e ho z => by
    rw [z, h3] at e
    exact ho _ (Option.some.inj e).symm
  refine ⟨⟨dx, by rw [upd_ne (nd h1 fun _ z => by cases z)]; exact h1⟩, ?_, upd_same, by rw [upd_ne (nd h4 fun _ z => by cases z)]; exact h4, by rw [upd_ne (nd h5 fun _ z => by cases z)]; exact h5, h6.upd (fun xs e => by rw [h3] at e; cases e), h7⟩
  rcases h2 with (h | ⟨o, h⟩) | h
  · exact .inl (.inl (by rw [upd_ne (nd h fun _ z => by cases z)]; exact h))
  · exact .inl (.inr ⟨o, by rw [upd_ne (nd h fun _ z => by cases z)]; exact h⟩)
  · exact .inr h
theorem SAt.names {H : Hp} {C x pl d l p : Addr} {size each : Int} {kvs : List (Int × Nat)} {names names' : List Int} {bs : List Addr} {rs : List Row} (h : SAt K C H x pl d l p size each kvs names bs rs) (nlp : l ≠ p) : SAt K C (upd H l (.lst (names'.map V.int))) x pl d l p size each kvs names' bs rs := by
  obtain ⟨⟨dx, h1⟩, h2, h3, h4, h5, h6, h7⟩ := h
  have nd : ∀ {b : Addr} {o : HO}, H b = some o → (∀ xs, o ≠ .lst xs) → b ≠ l := fun e ho z => by
    rw [z, h4] at e
    exact ho _ (Option.some.inj e).symm
  refine ⟨⟨dx, by rw [upd_ne (nd h1 fun _ z => by cases z)]; exact h1⟩, ?_, by rw [upd_ne (nd h3 fun _ z => by cases z)]; exact h3, upd_same, by rw [upd_ne nlp.symm]; exact h5, h6.upd (fun xs e => by rw [h4] at e; cases e), h7⟩
  rcases h2 with (h | ⟨o, h⟩) | h
  · exact .inl (.inl (by rw [upd_ne (nd h fun _ z => by cases z)]; exact h))
  · exact .inl (.inr ⟨o, by rw [upd_ne (nd h fun _ z => by cases z)]; exact h⟩)
  · exact .inr h
theorem SAt.other {H : Hp} {C x pl d l p y : Addr} {size each : Int} {kvs : List (Int × Nat)} {names : List Int} {bs : List Addr} {rs : List Row} {zs zs' : List V} (h : SAt K C H x pl d l p size each kvs names bs rs) (hy : H y = some (.lst zs)) (n1 : l ≠ y) (n2 : p ≠ y) : SAt K C (upd H y (.lst zs')) x pl d l p size each kvs names bs rs := by
  obtain ⟨⟨dx, h1⟩, h2, h3, h4, h5, h6, h7⟩ := h
  have nd : ∀ {b : Addr} {o : HO}, H b = some o → (∀ xs, o ≠ .lst xs) → b ≠ y := fun e ho z => by
    rw [z, hy] at e
    exact ho _ (Option.some.inj e).symm
  refine ⟨⟨dx, by rw [upd_ne (nd h1 fun _ z => by cases z)]; exact h1⟩, ?_, by rw [upd_ne (nd h3 fun _ z => by cases z)]; exact h3, by rw [upd_ne n1]; exact h4, by rw [upd_ne n2]; exact h5, h6.upd (fun xs e => by rw [hy] at e; cases e), h7⟩
  rcases h2 with (h | ⟨o, h⟩) | h
  · exact .inl (.inl (by rw [upd_ne (nd h fun _ z => by cases z)]; exact h))
  · exact .inl (.inr ⟨o, by rw [upd_ne (nd h fun _ z => by cases z)]; exact h⟩)
  · exact .inr h
theorem Aft.mono {H H0 : Hp} {C x pl d l : Addr} {size each : Int} {kvs : List (Int × Nat)} {names : List Int} {rs : List Row} {Q : VK} (h : Aft K C H0 x pl d l size each kvs names rs Q) (k : Kept x d l H0 H) (f : ∀ b, H b = none → H0 b = none) : Aft K C H x pl d l size each kvs names rs Q :=
  fun H' p bs pm ts s D k' hp hpm h1 h2 => h H' p bs pm ts s D (k.trans k') (f _ hp) (f _ hpm) h1 h2
theorem free_upd {H : Hp} {a : Addr} {o o' : HO} (h : H a = some o) {b : Addr} (hb : (upd H a o') b = none) : H b = none := by
  by_cases z : b = a
  · rw [z, upd_same] at hb
    cases hb
  · rw [upd_ne z] at hb
    exact hb
theorem sccome : FnScope ["self", "keeper", "share"] ["self", "keeper", "share"] (defScope sCome) := ⟨rfl, rfl, rfl, by decide +kernel, rfl, by decide +kernel, by decide +kernel⟩
theorem ok_come {C fA : Addr} {dA : FuncData} (F : Fun K "come" "Story.come" sCome f fd) (T : Txt K mg C) (B : Blt mg) (mA : Meth K C "deal_anew" fA) (bA : Binds K dA ["self"] []) (GA : FnOk P w K mg base CX0 5 fA dA ["self"] (spAnew K C)) : FnOk P w K mg base CX0 6 f fd ["self", "keeper", "share"] (spDeed K C (fun | .come k s => some [.int k, .int (s : Int)] | _ => none)) := by
  refine R.ok F sccome (fun vs H Q E h => ?_) (fun cdv A outer s H vs Q E hr h => ?_)
  · obtain ⟨_, _, _, _, _, _, _, _, _, _, _, dd, as, rfl, ha, _⟩ := h
    cases dd <;> cases ha
    rfl
  · obtain ⟨x, pl, d, l, p, size, each, kvs, names, bs, rs, dd, as, rfl, ha, S, D, hz, he, ft, hk, hn, g, q⟩ := h
    have hu := hu_of hr
    have hr1 := hr.mono (show 1 ≤ 5 by decide)
    obtain ⟨⟨dx, hx⟩, htp, hdc, hnm, hrw, hrs, hlp⟩ := id S
    refine ⟨_, (pss_cons (ps_if (pt_cmp (pc_din hu (pv 1) (pe_fld (pv 0)))) pss_never pss_nil) <|
      pss_cons (ps_if (pt_cmpR op_lt (pv 2) (pe_int) (nomark _)) pss_never pss_nil) <|
      pss_cons (ps_dput hu (pe_fld (pv 0)) (pv 1) (pv 2) rfl) <|
      pss_one (ps_ret (pe_meth0 (pv 0) T.cl mA GA hr bA .nil pass0))), ?_⟩
    cases dd <;> cases ha
    rename_i k sh
    obtain ⟨g1, g2, g3, g4⟩ := id g
    have hnv : valV (keepD kvs) (Sum.inl k : Key) = none := keepD_none g1
    refine ⟨_, rfl, _, rfl, x, C, dx, _, _, rfl, hx, T.cl, T.nS, fl_shares _ _ _ _, d, _, rfl, DGet.k (k := Sum.inl k) hdc, _, rfl, ?_⟩
    rw [hnv]
    refine iteF ⟨_, rfl, _, _, rfl, rfl, _, rfl, ?_⟩
    rw [decide_eq_false (by omega)]
    refine iteF ⟨_, rfl, _, rfl, x, C, dx, _, _, rfl, hx, T.cl, T.nS, fl_shares _ _ _ _, _, rfl, d, _, rfl, DPut.k (k := Sum.inl k) hdc (by unfold keepD; rw [List.length_map]; exact small_1000 (by omega)), ?_⟩
    rw [keepD_snoc _ _ _ g1]
    have S1 := S.keep (kvs' := kvs ++ [(k, sh)])
    obtain ⟨⟨dx', hx'⟩, _⟩ := id S1
    refine ⟨_, rfl, x, dx', _, rfl, hx', fl_no1 _ _ _ _, x, pl, d, l, p, size, each, kvs ++ [(k, sh)], names, bs, rs, rfl, S1, D.nd ft.nd, by rw [D.len]; omega, hz, he, ft.step g, by rw [List.length_append]; simp; omega, by omega, q.mono (fun b o _ h2 _ e => by rw [upd_ne h2]; exact e) fun b hb => free_upd hdc hb⟩
theorem scleave : FnScope ["self", "keeper"] ["self", "keeper"] (defScope sLeave) := ⟨rfl, rfl, rfl, by decide +kernel, rfl, by decide +kernel, by decide +kernel⟩
theorem ok_leave {C fA : Addr} {dA : FuncData} (F : Fun K "leave" "Story.leave" sLeave f fd) (T : Txt K mg C) (B : Blt mg) (mA : Meth K C "deal_anew" fA) (bA : Binds K dA ["self"] []) (GA : FnOk P w K mg base CX0 5 fA dA ["self"] (spAnew K C)) : FnOk P w K mg base CX0 6 f fd ["self", "keeper"] (spDeed K C (fun | .leave k => some [.int k] | _ => none)) := by
  refine R.ok F scleave (fun vs H Q E h => ?_) (fun cdv A outer s H vs Q E hr h => ?_)
  · obtain ⟨_, _, _, _, _, _, _, _, _, _, _, dd, as, rfl, ha, _⟩ := h
    cases dd <;> cases ha
    rfl
  · obtain ⟨x, pl, d, l, p, size, each, kvs, names, bs, rs, dd, as, rfl, ha, S, D, hz, he, ft, hk, hn, g, q⟩ := h
    have hu := hu_of hr
    have hr1 := hr.mono (show 1 ≤ 5 by decide)
    obtain ⟨⟨dx, hx⟩, htp, hdc, hnm, hrw, hrs, hlp⟩ := id S
    refine ⟨_, (pss_cons (ps_if (pt_cmp (pc_dnotin hu (pv 1) (pe_fld (pv 0)))) pss_never pss_nil) <|
      pss_cons (ps_expr (pe_dpop1 (pe_fld (pv 0)) (pv 1) ⟨by rfl, by rfl, by rfl, by rfl⟩)) <|
      pss_one (ps_ret (pe_meth0 (pv 0) T.cl mA GA hr bA .nil pass0))), ?_⟩
    cases dd <;> cases ha
    rename_i k
    obtain ⟨v, hv⟩ := keepD_some (show k ∈ kvs.map (·.1) from g)
    refine ⟨_, rfl, _, rfl, x, C, dx, _, _, rfl, hx, T.cl, T.nS, fl_shares _ _ _ _, d, _, rfl, DGet.k (k := Sum.inl k) hdc, _, rfl, ?_⟩
    rw [hv]
    refine iteF ⟨_, rfl, x, C, dx, _, _, rfl, hx, T.cl, T.nS, fl_shares _ _ _ _, d, rfl, .inl ⟨_, .inl hdc⟩, _, rfl, keepD kvs, Sum.inl k, v, hdc, rfl, hv, ?_⟩
    rw [keepD_drop]
    have S1 := S.keep (kvs' := kvs.filter fun p => !decide (p.1 = k))
    obtain ⟨⟨dx', hx'⟩, _⟩ := id S1
    have hlf := List.length_filter_le (fun p : Int × Nat => !decide (p.1 = k)) kvs
    refine ⟨_, rfl, x, dx', _, rfl, hx', fl_no1 _ _ _ _, x, pl, d, l, p, size, each, _, names, bs, rs, rfl, S1, D.nd ft.nd, by rw [D.len]; omega, hz, he, ft.step g, by omega, by omega, q.mono (fun b o _ h2 _ e => by rw [upd_ne h2]; exact e) fun b hb => free_upd hdc hb⟩
theorem scput : FnScope ["self", "name"] ["self", "name"] (defScope sPut) := ⟨rfl, rfl, rfl, by decide +kernel, rfl, by decide +kernel, by decide +kernel⟩
theorem ok_put {C fA : Addr} {dA : FuncData} (F : Fun K "put" "Story.put" sPut f fd) (T : Txt K mg C) (B : Blt mg) (mA : Meth K C "deal_anew" fA) (bA : Binds K dA ["self"] []) (GA : FnOk P w K mg base CX0 5 fA dA ["self"] (spAnew K C)) : FnOk P w K mg base CX0 6 f fd ["self", "name"] (spDeed K C (fun | .put n => some [.int n] | _ => none)) := by
  refine R.ok F scput (fun vs H Q E h => ?_) (fun cdv A outer s H vs Q E hr h => ?_)
  · obtain ⟨_, _, _, _, _, _, _, _, _, _, _, dd, as, rfl, ha, _⟩ := h
    cases dd <;> cases ha
    rfl
  · obtain ⟨x, pl, d, l, p, size, each, kvs, names, bs, rs, dd, as, rfl, ha, S, D, hz, he, ft, hk, hn, g, q⟩ := h
    have hu := hu_of hr
    have hr1 := hr.mono (show 1 ≤ 5 by decide)
    obtain ⟨⟨dx, hx⟩, htp, hdc, hnm, hrw, hrs, hlp⟩ := id S
    refine ⟨_, (pss_cons (ps_if (pt_cmpR op_in_seq (pv 1) (pe_fld (pv 0)) (by rfl)) pss_never pss_nil) <|
      pss_cons (ps_expr (pe_bm PySem.F.plainAttrs_list PySem.F.slot_list_append PySem.F.type_list_append mt_append (pe_fld (pv 0)) (pa_nm (pv 1) pa_nil))) <|
      pss_one (ps_ret (pe_meth0 (pv 0) T.cl mA GA hr bA .nil pass0))), ?_⟩
    cases dd <;> cases ha
    rename_i n
    obtain ⟨g1, g2⟩ := id g
    have nlp : l ≠ p := S.lp
    refine ⟨_, rfl, _, rfl, x, C, dx, _, _, rfl, hx, T.cl, T.nN, fl_names _ _ _ _, l, _, rfl, .inl (SqL.of hnm), rfl, by rw [List.all_map]; exact List.all_eq_true.mpr fun _ _ => rfl, _, rfl, ?_⟩
    rw [inV_ints, decide_eq_false g1]
    refine iteF ⟨_, rfl, x, C, dx, _, _, rfl, hx, T.cl, T.nN, fl_names _ _ _ _, .inl ⟨rfl, _, SqL.of hnm⟩, _, rfl, l, _, _, rfl, rfl, hnm, by rw [List.length_map]; exact small_1000 (by omega), ?_⟩
    have e1 : names.map V.int ++ [V.int n] = (names ++ [n]).map V.int := by rw [List.map_append]; rfl
    rw [e1]
    have S1 := S.names nlp (names' := names ++ [n])
    obtain ⟨⟨dx', hx'⟩, _⟩ := id S1
    refine ⟨_, rfl, x, dx', _, rfl, hx', fl_no1 _ _ _ _, x, pl, d, l, p, size, each, kvs, names ++ [n], bs, rs, rfl, S1, D.nd ft.nd, by rw [D.len]; omega, hz, he, ft.step g, by omega, by rw [List.length_append]; simp; omega, q.mono (fun b o _ _ h3 e => by rw [upd_ne h3]; exact e) fun b hb => free_upd hnm hb⟩
def spNeed (C : Addr) : Sp := fun vs H Q _ => ∃ (x pl d l p : Addr) (names : List Int) (n : Int), vs = [.ref x, .int n] ∧ (∃ dx, H x = some (.ins C dx (flds pl d l p))) ∧ H l = some (.lst (names.map V.int)) ∧ n ∈ names ∧ Q .non H
theorem scNeed : FnScope ["self", "name"] ["self", "name"] (defScope sNeed) := ⟨rfl, rfl, rfl, by decide +kernel, rfl, by decide +kernel, by decide +kernel⟩
theorem ok_need {C : Addr} (F : Fun K "need_name" "Story.need_name" sNeed f fd) (T : Txt K mg C) : FnOk P w K mg base CX0 1 f fd ["self", "name"] (spNeed C) := by
  refine R.ok F scNeed (fun vs H Q E h => ?_) (fun cdv A outer s H vs Q E hr h => ?_)
  · obtain ⟨_, _, _, _, _, _, _, rfl, _⟩ := h
    rfl
  · obtain ⟨x, pl, d, l, p, names, n, rfl, ⟨dx, hx⟩, hnm, hn, q⟩ := h
    refine ⟨_, (pss_one (ps_if (pt_cmpR op_notIn_seq (pv 1) (pe_fld (pv 0)) (by rfl)) pss_never pss_nil)), ?_⟩
    refine ⟨_, rfl, _, rfl, x, C, dx, _, _, rfl, hx, T.cl, T.nN, fl_names _ _ _ _, l, _, rfl, .inl (SqL.of hnm), rfl, by rw [List.all_map]; exact List.all_eq_true.mpr fun _ _ => rfl, _, rfl, ?_⟩
    rw [inV_ints, decide_eq_true hn]
    exact iteF q
theorem scdrop : FnScope ["self", "name"] ["self", "name"] (defScope sDrop) := ⟨rfl, rfl, rfl, by decide +kernel, rfl, by decide +kernel, by decide +kernel⟩
theorem ok_drop {C fA fN : Addr} {dA dN : FuncData} (F : Fun K "drop" "Story.drop" sDrop f fd) (T : Txt K mg C) (B : Blt mg) (mA : Meth K C "deal_anew" fA) (bA : Binds K dA ["self"] []) (GA : FnOk P w K mg base CX0 5 fA dA ["self"] (spAnew K C)) (mN : Meth K C "need_name" fN) (bN : Binds K dN ["self", "name"] []) (GN : FnOk P w K mg base CX0 1 fN dN ["self", "name"] (spNeed C)) : FnOk P w K mg base CX0 6 f fd ["self", "name"] (spDeed K C (fun | .drop n => some [.int n] | _ => none)) := by
  refine R.ok F scdrop (fun vs H Q E h => ?_) (fun cdv A outer s H vs Q E hr h => ?_)
  · obtain ⟨_, _, _, _, _, _, _, _, _, _, _, dd, as, rfl, ha, _⟩ := h
    cases dd <;> cases ha
    rfl
  · obtain ⟨x, pl, d, l, p, size, each, kvs, names, bs, rs, dd, as, rfl, ha, S, D, hz, he, ft, hk, hn, g, q⟩ := h
    have hu := hu_of hr
    have hr1 := hr.mono (show 1 ≤ 5 by decide)
    obtain ⟨⟨dx, hx⟩, htp, hdc, hnm, hrw, hrs, hlp⟩ := id S
    refine ⟨_, (pss_cons (ps_expr (pe_meth (pv 0) T.cl mN GN hr1 bN .nil pass0 (pa_nm (pv 1) pa_nil))) <|
      pss_cons (ps_expr (pe_bm PySem.F.plainAttrs_list PySem.F.slot_list_remove PySem.F.type_list_remove mt_remove (pe_fld (pv 0)) (pa_nm (pv 1) pa_nil))) <|
      pss_one (ps_ret (pe_meth0 (pv 0) T.cl mA GA hr bA .nil pass0))), ?_⟩
    cases dd <;> cases ha
    rename_i n
    have g1 : n ∈ names := g
    refine ⟨_, rfl, x, dx, _, rfl, hx, fl_no2 _ _ _ _, _, rfl, x, pl, d, l, p, names, n, rfl, ⟨dx, hx⟩, hnm, g1, ?_⟩
    refine ⟨_, rfl, x, C, dx, _, _, rfl, hx, T.cl, T.nN, fl_names _ _ _ _, .inl ⟨rfl, _, SqL.of hnm⟩, _, rfl, l, names, n, rfl, rfl, hnm, g1, ?_⟩
    have S1 := S.names hlp (names' := names.erase n)
    obtain ⟨⟨dx', hx'⟩, _⟩ := id S1
    have hle := List.length_erase_le (a := n) (l := names)
    refine ⟨_, rfl, x, dx', _, rfl, hx', fl_no1 _ _ _ _, x, pl, d, l, p, size, each, kvs, names.erase n, bs, rs, rfl, S1, D.nd ft.nd, by rw [D.len]; omega, hz, he, ft.step g, by omega, by omega, q.mono (fun b o _ _ h3 e => by rw [upd_ne h3]; exact e) fun b hb => free_upd hnm hb⟩
theorem rowsD_some {n : Int} : ∀ {rs : List Row}, n ∈ rs.map (·.1) → valV (rowsD rs) (Sum.inl n : Key) = some (optV (oldK rs n))
  | [], h => by cases h
  | r :: q, h => by
    unfold rowsD oldK
    rw [List.map_cons, List.find?_cons]
    by_cases e : r.1 = n
    · rw [decide_eq_true e, valV_pos (by rw [e])]
      rfl
    · rw [decide_eq_false e, valV_neg (fun z => e (Sum.inl.inj z))]
      rw [List.map_cons] at h
      rcases List.mem_cons.mp h with h | h
      · exact absurd h.symm e
      · exact rowsD_some (rs := q) h
def spWhere (K : PySem.W.Frag) (C : Addr) : Sp := fun vs H Q _ => ∃ (x pl d l p : Addr) (size each : Int) (kvs : List (Int × Nat)) (names : List Int) (bs : List Addr) (rs : List Row) (n : Int), vs = [.ref x, .int n] ∧ SAt K C H x pl d l p size each kvs names bs rs ∧ IsDeal size each kvs names rs ∧ names.Nodup ∧ n ∈ names ∧
  ∀ H', Same H H' → Q (optV (oldK rs n)) H'
theorem scWhere : FnScope ["self", "name"] ["self", "name"] (defScope sWhere) := ⟨rfl, rfl, rfl, by decide +kernel, rfl, by decide +kernel, by decide +kernel⟩
theorem ok_where {C fN : Addr} {dN : FuncData} (F : Fun K "where" "Story.where" sWhere f fd) (T : Txt K mg C) (B : Blt mg) (mN : Meth K C "need_name" fN) (bN : Binds K dN ["self", "name"] []) (GN : FnOk P w K mg base CX0 1 fN dN ["self", "name"] (spNeed C)) : FnOk P w K mg base CX0 6 f fd ["self", "name"] (spWhere K C) := by
  refine R.ok F scWhere (fun vs H Q E h => ?_) (fun cdv A outer s H vs Q E hr h => ?_)
  · obtain ⟨_, _, _, _, _, _, _, _, _, _, _, _, rfl, _⟩ := h
    rfl
  · obtain ⟨x, pl, d, l, p, size, each, kvs, names, bs, rs, n, rfl, S, D, nn, hn, q⟩ := h
    have hu := hu_of hr
    have hr1 := hr.mono (show 1 ≤ 5 by decide)
    obtain ⟨⟨dx, hx⟩, htp, hdc, hnm, hrw, hrs, hlp⟩ := id S
    refine ⟨_, (pss_cons (ps_expr (pe_meth (pv 0) T.cl mN GN hr1 bN .nil pass0 (pa_nm (pv 1) pa_nil))) <|
      pss_one (ps_ret (pe_dget hu (pe_callTy (call_dictP rfl) (by rfl) B.dict (by rfl) (pa_att (pe_fld (pv 0)) pa_nil)) (pv 1) (fun _ _ => rfl)))), ?_⟩
    refine ⟨_, rfl, x, dx, _, rfl, hx, fl_no2 _ _ _ _, _, rfl, x, pl, d, l, p, names, n, rfl, ⟨dx, hx⟩, hnm, hn, ?_⟩
    refine ⟨_, rfl, x, C, dx, _, _, rfl, hx, T.cl, T.nR, fl_rows _ _ _ _, p, bs, rowsD rs, rfl, SqL.of hrw, rows_pairs hrs, rowsD_nd (D.nd nn), fun e he => ?_⟩
    obtain ⟨ns, e1, e2⟩ := D.fst
    have hg := DGet.k (k := Sum.inl n) (show (upd H e (.dK (rowsD rs))) e = some (.dK (rowsD rs)) from upd_same)
    rw [rowsD_some (by rw [e1]; exact e2.mem_iff.mpr hn)] at hg
    exact ⟨_, rfl, e, _, rfl, hg, q _ (Same.upd he)⟩
theorem iteDF {c A B : Prop} [Decidable c] (hc : ¬ c) (h : B) : if decide c = true then A else B := by
  rw [decide_eq_false hc]
  exact iteF h
theorem iteDT {c A B : Prop} [Decidable c] (hc : c) (h : A) : if decide c = true then A else B := by
  rw [decide_eq_true hc]
  exact iteT h
def AftD (K : PySem.W.Frag) (C : Addr) (H : Hp) (x pl d l : Addr) (size each : Int) (kvs : List (Int × Nat)) (names : List Int) (rs : List Row) (Q : VK) : Deed → Prop
  | .wher n => ∀ H', Same H H' → Q (optV (oldK rs n)) H'
  | .refu _ _ => False
  | dd => Aft K C H x pl d l size each (dd.kv kvs) (dd.nm names) rs Q
def spDo (K : PySem.W.Frag) (C : Addr) : Sp := fun vs H Q _ => ∃ (x t pl d l p : Addr) (size each : Int) (kvs : List (Int × Nat)) (names : List Int) (bs : List Addr) (rs : List Row) (dd : Deed), vs = [.ref x, .ref t] ∧ H t = some (.tup dd.vs) ∧ SAt K C H x pl d l p size each kvs names bs rs ∧ IsDeal size each kvs names rs ∧
  0 < size ∧ 0 ≤ each ∧ Fit kvs names ∧ kvs.length < 100 ∧ names.length < 100 ∧ dd.good kvs names ∧ AftD K C H x pl d l size each kvs names rs Q dd
structure Meths (P : Program) (w : World) (K : PySem.W.Frag) (mg : Str → Option Value) (base : Heap) (C : Addr) : Prop where
  T : Txt K mg C
  come : ∃ fa da, Meth K C "come" fa ∧ Binds K da ["self", "keeper", "share"] [] ∧ FnOk P w K mg base CX0 6 fa da ["self", "keeper", "share"] (spDeed K C (fun | .come k s => some [.int k, .int (s : Int)] | _ => none))
  leave : ∃ fa da, Meth K C "leave" fa ∧ Binds K da ["self", "keeper"] [] ∧ FnOk P w K mg base CX0 6 fa da ["self", "keeper"] (spDeed K C (fun | .leave k => some [.int k] | _ => none))
  put : ∃ fa da, Meth K C "put" fa ∧ Binds K da ["self", "name"] [] ∧ FnOk P w K mg base CX0 6 fa da ["self", "name"] (spDeed K C (fun | .put n => some [.int n] | _ => none))
  drop : ∃ fa da, Meth K C "drop" fa ∧ Binds K da ["self", "name"] [] ∧ FnOk P w K mg base CX0 6 fa da ["self", "name"] (spDeed K C (fun | .drop n => some [.int n] | _ => none))
  wher : ∃ fa da, Meth K C "where" fa ∧ Binds K da ["self", "name"] [] ∧ FnOk P w K mg base CX0 6 fa da ["self", "name"] (spWhere K C)
  init : ∃ fa da, Mk K C fa ∧ Binds K da ["self", "plan"] [] ∧ FnOk P w K mg base CX0 1 fa da ["self", "plan"] (spInit C)
theorem scDo : FnScope ["story", "deed", "word"] ["story", "deed"] (defScope sDo) := ⟨rfl, rfl, rfl, by decide +kernel, rfl, by decide +kernel, by decide +kernel⟩
theorem ok_do {C : Addr} (F : Fun K "do" "do" sDo f fd) (M : Meths P w K mg base C) : FnOk P w K mg base CX0 7 f fd ["story", "deed"] (spDo K C) := by
  obtain ⟨f1, d1, m1, b1, G1⟩ := M.come
  obtain ⟨f2, d2, m2, b2, G2⟩ := M.leave
  obtain ⟨f3, d3, m3, b3, G3⟩ := M.put
  obtain ⟨f4, d4, m4, b4, G4⟩ := M.drop
  obtain ⟨f5, d5, m5, b5, G5⟩ := M.wher
  have T := M.T
  refine R.ok F scDo (fun vs H Q E h => ?_) (fun cdv A outer s H vs Q E hr h => ?_)
  · obtain ⟨_, _, _, _, _, _, _, _, _, _, _, _, _, rfl, _⟩ := h
    rfl
  · obtain ⟨x, t, pl, d, l, p, size, each, kvs, names, bs, rs, dd, rfl, ht, S, D, hz, he, ft, hk, hn, g, q⟩ := h
    obtain ⟨⟨dx, hx⟩, _⟩ := id S
    refine ⟨_, (pss_cons (ps_set (i := 2) scDo.nd rfl (Or.inl rfl) (pe_ix ix_tup (pv 1) (pe_int) (fun _ _ => rfl))) <|
      pss_cons (ps_if (pt_cmpR op_eq (pv 2) (pe_str) (nomark _)) (pss_one (ps_ret (pe_meth (pv 0) T.cl m1 G1 hr b1 .nil pass0 (pa_sub (pe_ix ix_tup (pv 1) (pe_int) (fun _ _ => rfl)) (pa_sub (pe_ix ix_tup (pv 1) (pe_int) (fun _ _ => rfl)) pa_nil))))) pss_nil) <|
      pss_cons (ps_if (pt_cmpR op_eq (pv 2) (pe_str) (nomark _)) (pss_one (ps_ret (pe_meth (pv 0) T.cl m2 G2 hr b2 .nil pass0 (pa_sub (pe_ix ix_tup (pv 1) (pe_int) (fun _ _ => rfl)) pa_nil)))) pss_nil) <|
      pss_cons (ps_if (pt_cmpR op_eq (pv 2) (pe_str) (nomark _)) (pss_one (ps_ret (pe_meth (pv 0) T.cl m3 G3 hr b3 .nil pass0 (pa_sub (pe_ix ix_tup (pv 1) (pe_int) (fun _ _ => rfl)) pa_nil)))) pss_nil) <|
      pss_cons (ps_if (pt_cmpR op_eq (pv 2) (pe_str) (nomark _)) (pss_one (ps_ret (pe_meth (pv 0) T.cl m4 G4 hr b4 .nil pass0 (pa_sub (pe_ix ix_tup (pv 1) (pe_int) (fun _ _ => rfl)) pa_nil)))) pss_nil) <|
      pss_one (ps_ret (pe_meth (pv 0) T.cl m5 G5 hr b5 .nil pass0 (pa_sub (pe_ix ix_tup (pv 1) (pe_int) (fun _ _ => rfl)) pa_nil)))), ?_⟩
    cases dd with
    | refu t r => exact q.elim
    | come k sh =>
      refine ⟨_, rfl, t, _, 0, V.str "come", rfl, rfl, SqT.of ht, rfl, ?_⟩
      refine ⟨_, rfl, rfl, _, rfl, iteDT rfl ?_⟩
      exact ⟨_, rfl, x, dx, _, rfl, hx, fl_no3 _ _ _ _, _, rfl, t, _, 1, V.int k, rfl, rfl, SqT.of ht, rfl, _, rfl, t, _, 2, V.int (sh : Int), rfl, rfl, SqT.of ht, rfl, x, pl, d, l, p, size, each, kvs, names, bs, rs, .come k sh, _, rfl, rfl, S, D, hz, he, ft, hk, hn, g, q⟩
    | leave k =>
      refine ⟨_, rfl, t, _, 0, V.str "leave", rfl, rfl, SqT.of ht, rfl, ?_⟩
      refine ⟨_, rfl, rfl, _, rfl, iteDF (by decide +kernel) ?_⟩
      refine ⟨_, rfl, rfl, _, rfl, iteDT rfl ?_⟩
      exact ⟨_, rfl, x, dx, _, rfl, hx, fl_no4 _ _ _ _, _, rfl, t, _, 1, V.int k, rfl, rfl, SqT.of ht, rfl, x, pl, d, l, p, size, each, kvs, names, bs, rs, .leave k, _, rfl, rfl, S, D, hz, he, ft, hk, hn, g, q⟩
    | put n =>
      refine ⟨_, rfl, t, _, 0, V.str "put", rfl, rfl, SqT.of ht, rfl, ?_⟩
      refine ⟨_, rfl, rfl, _, rfl, iteDF (by decide +kernel) ?_⟩
      refine ⟨_, rfl, rfl, _, rfl, iteDF (by decide +kernel) ?_⟩
      refine ⟨_, rfl, rfl, _, rfl, iteDT rfl ?_⟩
      exact ⟨_, rfl, x, dx, _, rfl, hx, fl_no5 _ _ _ _, _, rfl, t, _, 1, V.int n, rfl, rfl, SqT.of ht, rfl, x, pl, d, l, p, size, each, kvs, names, bs, rs, .put n, _, rfl, rfl, S, D, hz, he, ft, hk, hn, g, q⟩
    | drop n =>
      refine ⟨_, rfl, t, _, 0, V.str "drop", rfl, rfl, SqT.of ht, rfl, ?_⟩
      refine ⟨_, rfl, rfl, _, rfl, iteDF (by decide +kernel) ?_⟩
      refine ⟨_, rfl, rfl, _, rfl, iteDF (by decide +kernel) ?_⟩
      refine ⟨_, rfl, rfl, _, rfl, iteDF (by decide +kernel) ?_⟩
      refine ⟨_, rfl, rfl, _, rfl, iteDT rfl ?_⟩
      exact ⟨_, rfl, x, dx, _, rfl, hx, fl_no6 _ _ _ _, _, rfl, t, _, 1, V.int n, rfl, rfl, SqT.of ht, rfl, x, pl, d, l, p, size, each, kvs, names, bs, rs, .drop n, _, rfl, rfl, S, D, hz, he, ft, hk, hn, g, q⟩
    | wher n =>
      refine ⟨_, rfl, t, _, 0, V.str "where", rfl, rfl, SqT.of ht, rfl, ?_⟩
      refine ⟨_, rfl, rfl, _, rfl, iteDF (by decide +kernel) ?_⟩
      refine ⟨_, rfl, rfl, _, rfl, iteDF (by decide +kernel) ?_⟩
      refine ⟨_, rfl, rfl, _, rfl, iteDF (by decide +kernel) ?_⟩
      refine ⟨_, rfl, rfl, _, rfl, iteDF (by decide +kernel) ?_⟩
      exact ⟨_, rfl, x, dx, _, rfl, hx, fl_no7 _ _ _ _, _, rfl, t, _, 1, V.int n, rfl, rfl, SqT.of ht, rfl, x, pl, d, l, p, size, each, kvs, names, bs, rs, n, rfl, S, D, ft.nd, g, q⟩
theorem scAnswer : FnScope ["story", "deed"] ["story", "deed"] (defScope sAnswer) := ⟨rfl, rfl, rfl, by decide +kernel, rfl, by decide +kernel, by decide +kernel⟩
theorem ok_answer {C : Addr} (F : Fun K "answer_of" "answer_of" sAnswer f fd) (h1 : Has P w K mg base "do" ["story", "deed"] sDo 7 (spDo K C)) : FnOk P w K mg base CX0 8 f fd ["story", "deed"] (spDo K C) := by
  obtain ⟨fo, dfo, Ao, Go⟩ := h1
  refine R.ok F scAnswer (fun vs H Q E h => ?_) (fun cdv A outer s H vs Q E hr h => ?_)
  · obtain ⟨_, _, _, _, _, _, _, _, _, _, _, _, _, rfl, _⟩ := h
    rfl
  · obtain ⟨x, t, pl, d, l, p, size, each, kvs, names, bs, rs, dd, rfl, h⟩ := h
    refine ⟨_, (pss_one (ps_try (pss_one (ps_ret (pe_call Go hr (by rfl) Ao.mgf Ao.F.kp Ao.b .nil pass0 (pa_nm (pv 0) (pa_nm (pv 1) pa_nil))))))), ?_⟩
    exact ⟨_, rfl, _, rfl, x, t, pl, d, l, p, size, each, kvs, names, bs, rs, dd, rfl, h⟩
/-- a refused deed: the text -/
def spRef (K : PySem.W.Frag) (C : Addr) : Sp := fun vs H Q _ => ∃ (x t pl d l p : Addr) (size each : Int) (kvs : List (Int × Nat)) (names : List Int) (bs : List Addr) (rs : List Row) (tt : Tell) (r : Rf), vs = [.ref x, .ref t] ∧ H t = some (.tup tt.vs) ∧ SAt K C H x pl d l p size each kvs names bs rs ∧
  tt.rf kvs names = some r ∧ Q (.str r.txt) H
def spAns (K : PySem.W.Frag) (C : Addr) : Sp := fun vs H Q E => spDo K C vs H Q E ∨ spRef K C vs H Q E
def Told (H : Hp) (ts : List Addr) (dds : List Deed) : Prop := Paired (fun t (dd : Deed) => H t = some (.tup dd.vs)) ts dds
theorem Told.same {H H' : Hp} {ts : List Addr} {dds : List Deed} (h : Told H ts dds) (s : Same H H') : Told H' ts dds := Paired.mapP h fun _ _ e => s _ _ e
theorem Told.at {H : Hp} {ts : List Addr} {dds : List Deed} {i : Nat} {t : Addr} (h : Told H ts dds) (e : ts[i]? = some t) : ∃ dd, dds[i]? = some dd ∧ H t = some (.tup dd.vs) := paired_at h e
/-- the answers so far, none of them the list at l -/
def Anss (size each : Int) (l : Addr) (dds : List Deed) (H : Hp) (ans : List V) : Prop := ∀ (j : Nat) v dd, ans[j]? = some v → dds[j]? = some dd → AnsOk size each (kvAll [] (dds.take j)) (nmAll [] (dds.take j)) H v dd ∧ v ≠ .ref l
theorem AnsOk.kept {size each : Int} {kvs : List (Int × Nat)} {names : List Int} {H H' : Hp} {v : V} {dd : Deed} {x d l : Addr} {C dx : Addr} {fs : List (Str × V)} {kk : List (Key × V)} {ll : List V} (h : AnsOk size each kvs names H v dd) (hl : v ≠ .ref l) (k : Kept x d l H H')
    (h1 : H x = some (.ins C dx fs)) (h2 : H d = some (.dK kk)) (h3 : H l = some (.lst ll)) : AnsOk size each kvs names H' v dd := by
  cases dd with
  | wher n => exact h
  | refu t r => exact h
  | _ =>
    obtain ⟨pm, ts, rfl, g1, g2⟩ := h
    refine ⟨pm, ts, rfl, k _ _ (fun z => by rw [z, h1] at g1; cases g1) (fun z => by rw [z, h2] at g1; cases g1) (fun z => hl (by rw [z])) g1, Paired.mapP g2 fun b m e => k _ _ (fun z => by rw [z, h1] at e; cases e) (fun z => by rw [z, h2] at e; cases e) (fun z => by rw [z, h3] at e; cases e) e⟩
/-- one deed: the state behind it, whichever it is -/
theorem deed_step {C x t pl d l p : Addr} {size each : Int} {dds : List Deed} {bs : List Addr} {i : Nat} {dd : Deed} {H0 H1 : Hp} {Q : VK} (hdd : dds[i]? = some dd) (hlen : dds.length ≤ 90) (hgood : goodAll [] [] dds) (hz : 0 < size) (he : 0 ≤ each) (ht : H1 t = some (.tup dd.vs))
    (S : SAt K C H1 x pl d l p size each (kvAll [] (dds.take i)) (nmAll [] (dds.take i)) bs (dealOf size each (kvAll [] (dds.take i)) (nmAll [] (dds.take i)))) (D : IsDeal size each (kvAll [] (dds.take i)) (nmAll [] (dds.take i)) (dealOf size each (kvAll [] (dds.take i)) (nmAll [] (dds.take i))))
    (hx0 : H0 x = none) (hd0 : H0 d = none) (hl0 : H0 l = none) (sm : Same H0 H1)
    (k : ∀ (H' : Hp) (p' : Addr) (bs : List Addr) (v : V), Same H0 H' → Kept x d l H1 H' → AnsOk size each (kvAll [] (dds.take i)) (nmAll [] (dds.take i)) H' v dd → v ≠ .ref l → (∀ a, v = .ref a → H1 a = none) → (p' = p ∨ H1 p' = none) →
      SAt K C H' x pl d l p' size each (kvAll [] (dds.take (i + 1))) (nmAll [] (dds.take (i + 1))) bs (dealOf size each (kvAll [] (dds.take (i + 1))) (nmAll [] (dds.take (i + 1)))) →
      IsDeal size each (kvAll [] (dds.take (i + 1))) (nmAll [] (dds.take (i + 1))) (dealOf size each (kvAll [] (dds.take (i + 1))) (nmAll [] (dds.take (i + 1)))) → Q v H') : spAns K C [.ref x, .ref t] H1 Q E0 := by
  have e1 : kvAll [] (dds.take (i + 1)) = dd.kv (kvAll [] (dds.take i)) := by rw [take_snoc hdd, kvAll_snoc]
  have e2 : nmAll [] (dds.take (i + 1)) = dd.nm (nmAll [] (dds.take i)) := by rw [take_snoc hdd, nmAll_snoc]
  have hil := (List.getElem?_eq_some_iff.mp hdd).1
  have hg : goodAll [] [] (dds.take i) ∧ dd.good (kvAll [] (dds.take i)) (nmAll [] (dds.take i)) := by
    have h : dds = dds.take (i + 1) ++ dds.drop (i + 1) := (List.take_append_drop _ _).symm
    rw [h, take_snoc hdd, List.append_assoc] at hgood
    obtain ⟨a, b⟩ := (goodAll_append _ _ _ _).mp hgood
    exact ⟨a, b.1⟩
  have ft := Fit.nil.all hg.1
  have l1 := kvAll_len (dds.take i) []
  have l2 := nmAll_len (dds.take i) []
  rw [List.length_take] at l1 l2
  have hl1 : (kvAll [] (dds.take i)).length < 100 := by
    have : ([] : List (Int × Nat)).length = 0 := rfl
    omega
  have hl2 : (nmAll [] (dds.take i)).length < 100 := by
    have : ([] : List Int).length = 0 := rfl
    omega
  rw [e1, e2] at k
  obtain ⟨⟨dx, hx⟩, _, hdc, hnm, _, _, _⟩ := id S
  have smK : ∀ {H' : Hp}, Kept x d l H1 H' → Same H0 H' := fun kk b o e => kk b o (fun z => by rw [z, hx0] at e; cases e) (fun z => by rw [z, hd0] at e; cases e) (fun z => by rw [z, hl0] at e; cases e) (sm b o e)
  have eff : ∀ (hn : ∀ n, dd ≠ .wher n) (hnr : ∀ t r, dd ≠ .refu t r), Aft K C H1 x pl d l size each (dd.kv (kvAll [] (dds.take i))) (dd.nm (nmAll [] (dds.take i))) (dealOf size each (kvAll [] (dds.take i)) (nmAll [] (dds.take i))) Q := fun hn hnr => by
    intro H' p' bs' pm ts S' D' kk hp' hpm h1 h2
    refine k H' p' bs' (.ref pm) (smK kk) kk ?_ (fun z => ?_) (fun a z => ?_) (.inr hp') S' D'
    · cases dd with
      | wher n => exact absurd rfl (hn n)
      | refu t r => exact absurd rfl (hnr t r)
      | _ => exact ⟨pm, ts, rfl, h1, h2⟩
    · cases z
      rw [hnm] at hpm
      cases hpm
    · cases z
      exact hpm
  by_cases hrf : ∃ t r, dd = .refu t r
  · obtain ⟨tt, r, rfl⟩ := hrf
    refine .inr ⟨x, t, pl, d, l, p, size, each, _, _, bs, _, tt, r, rfl, ht, S, hg.2, ?_⟩
    exact k H1 p bs _ sm (fun _ _ _ _ _ e => e) rfl (fun z => by cases z) (fun a z => by cases z) (.inl rfl) S D
  refine .inl ⟨x, t, pl, d, l, p, size, each, _, _, bs, _, dd, rfl, ht, S, D, hz, he, ft, hl1, hl2, hg.2, ?_⟩
  cases dd with
  | refu tt r => exact absurd ⟨tt, r, rfl⟩ hrf
  | wher n =>
    intro H' s'
    exact k H' p bs _ (sm.trans s') (Kept.of s') rfl (fun z => by cases h : oldK (dealOf size each (kvAll [] (dds.take i)) (nmAll [] (dds.take i))) n <;> rw [h] at z <;> cases z) (fun a z => by cases h : oldK (dealOf size each (kvAll [] (dds.take i)) (nmAll [] (dds.take i))) n <;> rw [h] at z <;> cases z) (.inl rfl) (S.same s') D
  | _ => exact eff (fun n z => by cases z) fun t r z => by cases z
def spAnswers (K : PySem.W.Frag) : Sp := fun vs H Q _ => ∃ (pl a : Addr) (size each : Int) (ts : List Addr) (dds : List Deed), vs = [.ref pl, .ref a] ∧ SqT K H pl [.int size, .int each] ∧ SqL K H a (ts.map V.ref) ∧ Told H ts dds ∧ goodAll [] [] dds ∧ dds.length ≤ 90 ∧ 0 < size ∧ 0 ≤ each ∧
  ∀ (p l : Addr) (ans : List V) (H' : Hp), Same H H' → H p = none → H' p = some (.lst ans) → ans.length = dds.length → Anss size each l dds H' ans → Q (.ref p) H'
theorem scAnswers : FnScope ["plan", "deeds", "story"] ["plan", "deeds"] (defScope sAnswers) := ⟨rfl, rfl, rfl, by decide +kernel, rfl, by decide +kernel, by decide +kernel⟩
theorem csAnswers : CScope (defScope sAnswers) ["plan", "deeds", "story"] ["deed", "story"] [none, some 2] (compScope (retE sAnswers 1)) :=
  ⟨rfl, by decide +kernel, by decide +kernel, rfl, by decide +kernel, by decide +kernel, fun j i hj h => by
    match j, hj, h with
    | 0, _, h => cases h
    | 1, _, h => cases h; exact ⟨_, rfl, rfl, by decide +kernel⟩⟩
theorem ok_answers {C : Addr} (F : Fun K "answers" "answers" sAnswers f fd) (M : Meths P w K mg base C) (h1 : Has P w K mg base "answer_of" ["story", "deed"] sAnswer 8 (spAns K C)) : FnOk P w K mg base CX0 9 f fd ["plan", "deeds"] (spAnswers K) := by
  obtain ⟨ff, dff, Af, Gf⟩ := h1
  obtain ⟨f1, d1, M1, b1, G1⟩ := M.init
  refine R.ok F scAnswers (fun vs H Q E h => ?_) (fun cdv A outer s H vs Q E hr h => ?_)
  · obtain ⟨_, _, _, _, _, _, rfl, _⟩ := h
    rfl
  · obtain ⟨pl, a, size, each, ts, dds, rfl, hpl, ha, td, hgood, hlen, hz, he, q⟩ := h
    have hr2 := hr.mono (show 2 ≤ 8 by decide)
    refine ⟨_, (pss_cons (ps_set (i := 2) scAnswers.nd rfl (Or.inr rfl) (pe_make M1 G1 hr2 (by rfl) M.T.mgC b1 .nil pass0 (pa_nm (pv 0) pa_nil))) <|
      pss_one (ps_ret (pe_comp csAnswers rfl rfl rfl (pi_list (pv 1)) (fun cl s₀ H₀ fp => pg_name (i := 0) csAnswers.nd rfl (Or.inl rfl) (Or.inr rfl)) (fun cl s₀ H₀ fp => pf_nil) (fun cl s₀ H₀ fp => pe_call Gf hr (by rfl) Af.mgf Af.F.kp Af.b .nil pass0 (pa_nm (pv 1) (pa_nm (pv 0) pa_nil)))))), ?_⟩
    refine ⟨_, rfl, fun x dx nx ndx nex => ⟨x, dx, pl, rfl, upd_same, fun d l p H1 hx hd hl hp hdn hln hpn nlp kp => ⟨rfl, ?_⟩⟩⟩
    have s0 : Same H (upd (upd H dx (.own x)) x (.ins C dx [])) := fun b o e => by
      rw [upd_ne (ne_of_none e nx), upd_ne (ne_of_none e ndx)]
      exact e
    have s1 : Same H H1 := fun b o e => kp b o (s0 b o e) (ne_of_none e nx)
    have hd0 : H d = none := s0.free hdn
    have hl0 : H l = none := s0.free hln
    refine ⟨_, rfl, a, rfl, ⟨_, s1.seq ha⟩, fun y hy => ?_⟩
    have S0 : SAt K C H1 x pl d l p size each [] [] [] [] := ⟨⟨dx, hx⟩, s1.tup hpl, hd, hl, hp, .nil, nlp⟩
    have D0 : IsDeal size each [] [] [] := isDeal_nil
    have e0 : dealOf size each [] [] = [] := D0.eq.symm
    have hy0 : H y = none := s1.free hy
    have nly : l ≠ y := ne_of_none hl hy
    have nxy : x ≠ y := ne_of_none hx hy
    have ndy : d ≠ y := ne_of_none hd hy
    refine comp_list (xs := ts.map V.ref) (fun i σ H' => ∃ (v0 : Option V) (p : Addr) (bs : List Addr) (ans : List V), σ = [v0, some (.ref x)] ∧ Same H H' ∧ H' y = some (.lst ans) ∧ ans.length = i ∧ (∀ v ∈ ans, v ≠ .ref y) ∧ p ≠ y ∧ Anss size each l dds H' ans ∧
        SAt K C H' x pl d l p size each (kvAll [] (dds.take i)) (nmAll [] (dds.take i)) bs (dealOf size each (kvAll [] (dds.take i)) (nmAll [] (dds.take i))) ∧ IsDeal size each (kvAll [] (dds.take i)) (nmAll [] (dds.take i)) (dealOf size each (kvAll [] (dds.take i)) (nmAll [] (dds.take i))))
      ⟨none, p, [], [], rfl, s1.tr hy, upd_same, rfl, fun v hv => (nomatch hv), ne_of_none hp hy, (fun j v dd hj => by simp at hj), ?_, ?_⟩ (fun i σ H' _ ⟨_, _, _, _, _, sm, _⟩ => sm.seq ha) ?_ ?_
    · rw [List.take_zero]
      show SAt K C _ x pl d l p size each [] [] [] (dealOf size each [] [])
      rw [e0]
      exact S0.same (Same.upd hy)
    · rw [List.take_zero]
      show IsDeal size each [] [] (dealOf size each [] [])
      rw [e0]
      exact D0
    · rintro i v σ H2 hi ⟨v0, p2, bs, ans, rfl, sm, hy2, hal, hay, hpy, an, S, D⟩
      obtain ⟨t, ht, rfl⟩ := ref_at hi
      obtain ⟨dd, hdd, htt⟩ := (td.same sm).at ht
      obtain ⟨⟨dx2, hx2⟩, _, hdc2, hnm2, _, _, _⟩ := id S
      have hil := (List.getElem?_eq_some_iff.mp hdd).1
      refine ⟨_, rfl, _, rfl, deed_step hdd hlen hgood hz he htt S D nx hd0 hl0 sm fun H3 p3 bs3 v3 s3 kk av hv hvn hp3 S3 D3 => ?_⟩
      have hy3 : H3 y = some (.lst ans) := kk _ _ nxy.symm ndy.symm nly.symm hy2
      have hvy : v3 ≠ .ref y := fun z => by
        have := hvn y z
        rw [hy2] at this
        cases this
      have hp3y : p3 ≠ y := by
        rcases hp3 with z | z
        · rw [z]
          exact hpy
        · exact fun e => by rw [e, hy2] at z; cases z
      refine ⟨ans, hy3, small_1000 (by omega), _, p3, bs3, ans ++ [v3], rfl, same_set s3 hy0, upd_same, by rw [List.length_append, hal]; rfl, fun w hw => ?_, hp3y, ?_, S3.other hy3 nly hp3y, D3⟩
      · rcases List.mem_append.mp hw with hw | hw
        · exact hay w hw
        · rw [List.mem_singleton.mp hw]
          exact hvy
      · have nt : ∀ {w : V} {dd' : Deed} {kv : List (Int × Nat)} {nm : List Int}, AnsOk size each kv nm H3 w dd' → w ≠ .ref y → AnsOk size each kv nm (upd H3 y (.lst (ans ++ [v3]))) w dd' := fun {w dd' kv nm} h hw => by
          cases dd' with
          | wher n => exact h
          | refu t r => exact h
          | _ =>
            obtain ⟨pm, ts', rfl, g1, g2⟩ := h
            exact ⟨pm, ts', rfl, by rw [upd_ne (fun z => hw (by rw [z]))]; exact g1, g2.upd fun xs e => by rw [hy3] at e; cases e⟩
        intro j w dd' hj hdj
        by_cases hjl : j < ans.length
        · rw [List.getElem?_append_left hjl] at hj
          obtain ⟨g1, g2⟩ := an j w dd' hj hdj
          exact ⟨nt (g1.kept g2 kk hx2 hdc2 hnm2) (hay w (List.mem_of_getElem? hj)), g2⟩
        · rw [List.getElem?_append_right (by omega)] at hj
          have hj0 : j - ans.length = 0 := by
            have := (List.getElem?_eq_some_iff.mp hj).1
            simp at this
            omega
          rw [hj0] at hj
          have hji : j = i := by omega
          subst hji
          rw [hdd] at hdj
          cases hdj
          cases hj
          exact ⟨nt av hvy, hv⟩
    · rintro σ H2 ⟨v0, p2, bs, ans, rfl, sm, hy2, hal, hay, hpy, an, S, D⟩
      exact q y l ans H2 sm hy0 hy2 (by rw [hal, List.length_map]; exact Paired.length td) an
end
end RK

set_option autoImplicit false
set_option maxRecDepth 100000
set_option linter.all false
set_option Elab.async false
set_option maxHeartbeats 8000000
namespace RK
open PySem
open L2 hiding pv pe_bltn pe_int pe_bl pe_non pe_str pe_lst pe_tup pe_op pe_ix pe_callB pe_callTy pe_call pe_cmp pe_cmpR pe_and pe_one pe_not pe_slice pe_dget pe_dget1 pe_dnewK pe_bm pt_cmp pt_cmpR pt_not pt_val pw_or pw_or1 pw_and pw_and1 pa_nil pa_cons pa_int pa_nm pa_bin pa_sub pa_call pa_tup pss_cons pss_one pss_nil ps_set ps_if ps_for ps_ret ps_expr ps_dput pg_name pg_tup pgs_nil pgs_cons pi_list pi_tup pi_range1 po_none po_some pc_isN pe_comp ps_setC pf_nil pf_one pc_din pc_dnotin pc_notN pe_dget2 pe_dpop1 pe_un pe_fld ps_fld pi_range2 pe_meth pe_meth0 pe_make pe_sortItems ps_raise ph_nil ph_cons ps_tryX PH PE PT PW PA PS PSs PC PG PGs PI PO PF
open R hiding ok
section
variable {P : Program} {w : World} {K : PySem.W.Frag} {mg : Str → Option Value} {base : Heap} {f : Addr} {fd : FuncData}
def Rf.cls : Rf → Str
  | .kt => "KeeperThere"
  | .ns => "NoShare"
  | .nk => "NoKeeper"
  | .nt => "NameThere"
  | .nn => "NoName"
/-- the classes of the refusals -/
structure Exs (K : PySem.W.Frag) (mg : Str → Option Value) (c : Rf → Addr) : Prop where
  ex : ∀ r, ExcC K (c r)
  mgx : ∀ r : Rf, mg r.cls = some (.ref (c r))
  m : ∀ r r', PySem.W.mroIn K (c r) (.ref (c r')) = some (decide (r = r'))
def cOf (a b c d e : Addr) : Rf → Addr
  | .kt => a
  | .ns => b
  | .nk => c
  | .nt => d
  | .nn => e
theorem exs_mk {a b c d e : Addr} (x1 : ExcC K a) (x2 : ExcC K b) (x3 : ExcC K c) (x4 : ExcC K d) (x5 : ExcC K e)
    (g1 : mg "KeeperThere" = some (.ref a)) (g2 : mg "NoShare" = some (.ref b)) (g3 : mg "NoKeeper" = some (.ref c)) (g4 : mg "NameThere" = some (.ref d)) (g5 : mg "NoName" = some (.ref e))
    (m00 : PySem.W.mroIn K a (.ref a) = some true) (m01 : PySem.W.mroIn K a (.ref b) = some false) (m02 : PySem.W.mroIn K a (.ref c) = some false) (m03 : PySem.W.mroIn K a (.ref d) = some false) (m04 : PySem.W.mroIn K a (.ref e) = some false) (m10 : PySem.W.mroIn K b (.ref a) = some false) (m11 : PySem.W.mroIn K b (.ref b) = some true) (m12 : PySem.W.mroIn K b (.ref c) = some false) (m13 : PySem.W.mroIn K b (.ref d) = some false) (m14 : PySem.W.mroIn K b (.ref e) = some false) (m20 : PySem.W.mroIn K c (.ref a) = some false) (m21 : PySem.W.mroIn K c (.ref b) = some false) (m22 : PySem.W.mroIn K c (.ref c) = some true) (m23 : PySem.W.mroIn K c (.ref d) = some false) (m24 : PySem.W.mroIn K c (.ref e) = some false) (m30 : PySem.W.mroIn K d (.ref a) = some false) (m31 : PySem.W.mroIn K d (.ref b) = some false) (m32 : PySem.W.mroIn K d (.ref c) = some false) (m33 : PySem.W.mroIn K d (.ref d) = some true) (m34 : PySem.W.mroIn K d (.ref e) = some false) (m40 : PySem.W.mroIn K e (.ref a) = some false) (m41 : PySem.W.mroIn K e (.ref b) = some false) (m42 : PySem.W.mroIn K e (.ref c) = some false) (m43 : PySem.W.mroIn K e (.ref d) = some false) (m44 : PySem.W.mroIn K e (.ref e) = some true) : Exs K mg (cOf a b c d e) where
  ex := fun r => by
    cases r with
    | kt => exact x1
    | ns => exact x2
    | nk => exact x3
    | nt => exact x4
    | nn => exact x5
  mgx := fun r => by
    cases r with
    | kt => exact g1
    | ns => exact g2
    | nk => exact g3
    | nt => exact g4
    | nn => exact g5
  m := fun r r' => by
    cases r with
    | kt => cases r' with
      | kt => exact m00
      | ns => exact m01
      | nk => exact m02
      | nt => exact m03
      | nn => exact m04
    | ns => cases r' with
      | kt => exact m10
      | ns => exact m11
      | nk => exact m12
      | nt => exact m13
      | nn => exact m14
    | nk => cases r' with
      | kt => exact m20
      | ns => exact m21
      | nk => exact m22
      | nt => exact m23
      | nn => exact m24
    | nt => cases r' with
      | kt => exact m30
      | ns => exact m31
      | nk => exact m32
      | nt => exact m33
      | nn => exact m34
    | nn => cases r' with
      | kt => exact m40
      | ns => exact m41
      | nk => exact m42
      | nt => exact m43
      | nn => exact m44
def spNo (K : PySem.W.Frag) (C : Addr) (c : Rf → Addr) (args : Tell → Option (List V)) : Sp := fun vs H Q E => ∃ (x pl d l p : Addr) (size each : Int) (kvs : List (Int × Nat)) (names : List Int) (bs : List Addr) (rs : List Row) (tt : Tell) (as : List V) (r : Rf), vs = .ref x :: as ∧ args tt = some as ∧
  SAt K C H x pl d l p size each kvs names bs rs ∧ tt.rf kvs names = some r ∧ E (.ref (c r)) none H
theorem ok_comeX {C : Addr} {c : Rf → Addr}  (F : Fun K "come" "Story.come" sCome f fd) (T : Txt K mg C) (X : Exs K mg c) : FnOk P w K mg base (CX1 P w K) 6 f fd ["self", "keeper", "share"] (spNo K C c (fun | .come k s => some [.int k, .int s] | _ => none)) := by
  refine R.okX F sccome (fun vs H Q E h => ?_) (fun cdv A outer s H vs Q E hr h => ?_)
  · obtain ⟨_, _, _, _, _, _, _, _, _, _, _, tt, as, r, rfl, ha, _⟩ := h
    cases tt <;> cases ha
    rfl
  · obtain ⟨x, pl, d, l, p, size, each, kvs, names, bs, rs, tt, as, r, rfl, ha, S, hrf, q⟩ := h
    have hu := hu_of hr
    have hr1 := hr.mono (show 1 ≤ 5 by decide)
    obtain ⟨⟨dx, hx⟩, htp, hdc, hnm, hrw, hrs, hlp⟩ := id S
    refine ⟨_, (pss_cons (ps_if (pt_cmp (pc_din hu (pv 1) (pe_fld (pv 0)))) (pss_one (ps_raise raisesX rfl (by rfl) (X.mgx .kt) (X.ex .kt) (pa_cst pe_str pa_nil))) pss_nil) <|
      pss_cons (ps_if (pt_cmpR op_lt (pv 2) (pe_int) (nomark _)) (pss_one (ps_raise raisesX rfl (by rfl) (X.mgx .ns) (X.ex .ns) (pa_cst pe_str pa_nil))) pss_nil) <| pss_never), ?_⟩
    cases tt <;> cases ha
    rename_i k sh
    replace hrf : (if k ∈ kvs.map (·.1) then some Rf.kt else if sh < 1 then some Rf.ns else none) = some r := hrf
    refine ⟨_, rfl, _, rfl, x, C, dx, _, _, rfl, hx, T.cl, T.nS, fl_shares _ _ _ _, d, _, rfl, DGet.k (k := Sum.inl k) hdc, _, rfl, ?_⟩
    by_cases hk : k ∈ kvs.map (·.1)
    · rw [if_pos hk] at hrf
      cases hrf
      obtain ⟨v, hv⟩ := keepD_some hk
      rw [hv]
      exact iteT ⟨by show 1 ≤ sizeLine; decide, q⟩
    · rw [if_neg hk] at hrf
      rw [keepD_none hk]
      refine iteF ⟨_, rfl, _, _, rfl, rfl, _, rfl, ?_⟩
      by_cases hs : sh < 1
      · rw [if_pos hs] at hrf
        cases hrf
        rw [decide_eq_true hs]
        exact iteT ⟨by show 1 ≤ sizeLine; decide, q⟩
      · rw [if_neg hs] at hrf
        cases hrf
theorem ok_leaveX {C : Addr} {c : Rf → Addr}  (F : Fun K "leave" "Story.leave" sLeave f fd) (T : Txt K mg C) (X : Exs K mg c) : FnOk P w K mg base (CX1 P w K) 6 f fd ["self", "keeper"] (spNo K C c (fun | .leave k => some [.int k] | _ => none)) := by
  refine R.okX F scleave (fun vs H Q E h => ?_) (fun cdv A outer s H vs Q E hr h => ?_)
  · obtain ⟨_, _, _, _, _, _, _, _, _, _, _, tt, as, r, rfl, ha, _⟩ := h
    cases tt <;> cases ha
    rfl
  · obtain ⟨x, pl, d, l, p, size, each, kvs, names, bs, rs, tt, as, r, rfl, ha, S, hrf, q⟩ := h
    have hu := hu_of hr
    have hr1 := hr.mono (show 1 ≤ 5 by decide)
    obtain ⟨⟨dx, hx⟩, htp, hdc, hnm, hrw, hrs, hlp⟩ := id S
    refine ⟨_, (pss_cons (ps_if (pt_cmp (pc_dnotin hu (pv 1) (pe_fld (pv 0)))) (pss_one (ps_raise raisesX rfl (by rfl) (X.mgx .nk) (X.ex .nk) (pa_cst pe_str pa_nil))) pss_nil) <| pss_never), ?_⟩
    cases tt <;> cases ha
    rename_i k
    replace hrf : (if k ∈ kvs.map (·.1) then none else some Rf.nk) = some r := hrf
    refine ⟨_, rfl, _, rfl, x, C, dx, _, _, rfl, hx, T.cl, T.nS, fl_shares _ _ _ _, d, _, rfl, DGet.k (k := Sum.inl k) hdc, _, rfl, ?_⟩
    by_cases hk : k ∈ kvs.map (·.1)
    · rw [if_pos hk] at hrf
      cases hrf
    · rw [if_neg hk] at hrf
      cases hrf
      rw [keepD_none hk]
      exact iteT ⟨by show 1 ≤ sizeLine; decide, q⟩
theorem ok_putX {C : Addr} {c : Rf → Addr}  (F : Fun K "put" "Story.put" sPut f fd) (T : Txt K mg C) (X : Exs K mg c) : FnOk P w K mg base (CX1 P w K) 6 f fd ["self", "name"] (spNo K C c (fun | .put n => some [.int n] | _ => none)) := by
  refine R.okX F scput (fun vs H Q E h => ?_) (fun cdv A outer s H vs Q E hr h => ?_)
  · obtain ⟨_, _, _, _, _, _, _, _, _, _, _, tt, as, r, rfl, ha, _⟩ := h
    cases tt <;> cases ha
    rfl
  · obtain ⟨x, pl, d, l, p, size, each, kvs, names, bs, rs, tt, as, r, rfl, ha, S, hrf, q⟩ := h
    have hu := hu_of hr
    have hr1 := hr.mono (show 1 ≤ 5 by decide)
    obtain ⟨⟨dx, hx⟩, htp, hdc, hnm, hrw, hrs, hlp⟩ := id S
    refine ⟨_, (pss_cons (ps_if (pt_cmpR op_in_seq (pv 1) (pe_fld (pv 0)) (by rfl)) (pss_one (ps_raise raisesX rfl (by rfl) (X.mgx .nt) (X.ex .nt) (pa_cst pe_str pa_nil))) pss_nil) <| pss_never), ?_⟩
    cases tt <;> cases ha
    rename_i n
    replace hrf : (if n ∈ names then some Rf.nt else none) = some r := hrf
    refine ⟨_, rfl, _, rfl, x, C, dx, _, _, rfl, hx, T.cl, T.nN, fl_names _ _ _ _, l, _, rfl, .inl (SqL.of hnm), rfl, by rw [List.all_map]; exact List.all_eq_true.mpr fun _ _ => rfl, _, rfl, ?_⟩
    by_cases hn : n ∈ names
    · rw [if_pos hn] at hrf
      cases hrf
      rw [inV_ints, decide_eq_true hn]
      exact iteT ⟨by show 1 ≤ sizeLine; decide, q⟩
    · rw [if_neg hn] at hrf
      cases hrf
def spNeedX (C : Addr) (c : Rf → Addr) : Sp := fun vs H Q E => ∃ (x pl d l p : Addr) (names : List Int) (n : Int), vs = [.ref x, .int n] ∧ (∃ dx, H x = some (.ins C dx (flds pl d l p))) ∧ H l = some (.lst (names.map V.int)) ∧ n ∉ names ∧ E (.ref (c .nn)) none H
theorem ok_needX {C : Addr} {c : Rf → Addr} (F : Fun K "need_name" "Story.need_name" sNeed f fd) (T : Txt K mg C) (X : Exs K mg c) : FnOk P w K mg base (CX1 P w K) 1 f fd ["self", "name"] (spNeedX C c) := by
  refine R.okX F scNeed (fun vs H Q E h => ?_) (fun cdv A outer s H vs Q E hr h => ?_)
  · obtain ⟨_, _, _, _, _, _, _, rfl, _⟩ := h
    rfl
  · obtain ⟨x, pl, d, l, p, names, n, rfl, ⟨dx, hx⟩, hnm, hn, q⟩ := h
    refine ⟨_, (pss_one (ps_if (pt_cmpR op_notIn_seq (pv 1) (pe_fld (pv 0)) (by rfl)) (pss_one (ps_raise raisesX rfl (by rfl) (X.mgx .nn) (X.ex .nn) (pa_cst pe_str pa_nil))) pss_nil)), ?_⟩
    refine ⟨_, rfl, _, rfl, x, C, dx, _, _, rfl, hx, T.cl, T.nN, fl_names _ _ _ _, l, _, rfl, .inl (SqL.of hnm), rfl, by rw [List.all_map]; exact List.all_eq_true.mpr fun _ _ => rfl, _, rfl, ?_⟩
    rw [inV_ints, decide_eq_false hn]
    exact iteT ⟨by show 1 ≤ sizeLine; decide, q⟩
theorem ok_dropX {C fN : Addr} {c : Rf → Addr} {dN : FuncData} (F : Fun K "drop" "Story.drop" sDrop f fd) (T : Txt K mg C) (X : Exs K mg c) (mN : Meth K C "need_name" fN) (bN : Binds K dN ["self", "name"] []) (GN : FnOk P w K mg base (CX1 P w K) 1 fN dN ["self", "name"] (spNeedX C c)) : FnOk P w K mg base (CX1 P w K) 6 f fd ["self", "name"] (spNo K C c (fun | .drop n => some [.int n] | _ => none)) := by
  refine R.okX F scdrop (fun vs H Q E h => ?_) (fun cdv A outer s H vs Q E hr h => ?_)
  · obtain ⟨_, _, _, _, _, _, _, _, _, _, _, tt, as, r, rfl, ha, _⟩ := h
    cases tt <;> cases ha
    rfl
  · obtain ⟨x, pl, d, l, p, size, each, kvs, names, bs, rs, tt, as, r, rfl, ha, S, hrf, q⟩ := h
    have hu := hu_of hr
    have hr1 := hr.mono (show 1 ≤ 5 by decide)
    obtain ⟨⟨dx, hx⟩, htp, hdc, hnm, hrw, hrs, hlp⟩ := id S
    refine ⟨_, (pss_cons (ps_expr (pe_meth (pv 0) T.cl mN GN hr1 bN .nil passX (pa_nm (pv 1) pa_nil))) <| pss_never), ?_⟩
    cases tt <;> cases ha
    rename_i n
    replace hrf : (if n ∈ names then none else some Rf.nn) = some r := hrf
    have hn : n ∉ names ∧ r = .nn := by
      by_cases hn : n ∈ names
      · rw [if_pos hn] at hrf
        cases hrf
      · rw [if_neg hn] at hrf
        cases hrf
        exact ⟨hn, rfl⟩
    obtain ⟨hn, rfl⟩ := hn
    exact ⟨_, rfl, x, dx, _, rfl, hx, fl_no2 _ _ _ _, _, rfl, x, pl, d, l, p, names, n, rfl, ⟨dx, hx⟩, hnm, hn, q⟩
theorem ok_whereX {C fN : Addr} {c : Rf → Addr} {dN : FuncData} (F : Fun K "where" "Story.where" sWhere f fd) (T : Txt K mg C) (X : Exs K mg c) (mN : Meth K C "need_name" fN) (bN : Binds K dN ["self", "name"] []) (GN : FnOk P w K mg base (CX1 P w K) 1 fN dN ["self", "name"] (spNeedX C c)) : FnOk P w K mg base (CX1 P w K) 6 f fd ["self", "name"] (spNo K C c (fun | .wher n => some [.int n] | _ => none)) := by
  refine R.okX F scWhere (fun vs H Q E h => ?_) (fun cdv A outer s H vs Q E hr h => ?_)
  · obtain ⟨_, _, _, _, _, _, _, _, _, _, _, tt, as, r, rfl, ha, _⟩ := h
    cases tt <;> cases ha
    rfl
  · obtain ⟨x, pl, d, l, p, size, each, kvs, names, bs, rs, tt, as, r, rfl, ha, S, hrf, q⟩ := h
    have hu := hu_of hr
    have hr1 := hr.mono (show 1 ≤ 5 by decide)
    obtain ⟨⟨dx, hx⟩, htp, hdc, hnm, hrw, hrs, hlp⟩ := id S
    refine ⟨_, (pss_cons (ps_expr (pe_meth (pv 0) T.cl mN GN hr1 bN .nil passX (pa_nm (pv 1) pa_nil))) <| pss_never), ?_⟩
    cases tt <;> cases ha
    rename_i n
    replace hrf : (if n ∈ names then none else some Rf.nn) = some r := hrf
    have hn : n ∉ names ∧ r = .nn := by
      by_cases hn : n ∈ names
      · rw [if_pos hn] at hrf
        cases hrf
      · rw [if_neg hn] at hrf
        cases hrf
        exact ⟨hn, rfl⟩
    obtain ⟨hn, rfl⟩ := hn
    exact ⟨_, rfl, x, dx, _, rfl, hx, fl_no2 _ _ _ _, _, rfl, x, pl, d, l, p, names, n, rfl, ⟨dx, hx⟩, hnm, hn, q⟩
structure MethsX (P : Program) (w : World) (K : PySem.W.Frag) (mg : Str → Option Value) (base : Heap) (C : Addr) (c : Rf → Addr) : Prop where
  T : Txt K mg C
  come : ∃ fa da, Meth K C "come" fa ∧ Binds K da ["self", "keeper", "share"] [] ∧ FnOk P w K mg base (CX1 P w K) 6 fa da ["self", "keeper", "share"] (spNo K C c (fun | .come k s => some [.int k, .int s] | _ => none))
  leave : ∃ fa da, Meth K C "leave" fa ∧ Binds K da ["self", "keeper"] [] ∧ FnOk P w K mg base (CX1 P w K) 6 fa da ["self", "keeper"] (spNo K C c (fun | .leave k => some [.int k] | _ => none))
  put : ∃ fa da, Meth K C "put" fa ∧ Binds K da ["self", "name"] [] ∧ FnOk P w K mg base (CX1 P w K) 6 fa da ["self", "name"] (spNo K C c (fun | .put n => some [.int n] | _ => none))
  drop : ∃ fa da, Meth K C "drop" fa ∧ Binds K da ["self", "name"] [] ∧ FnOk P w K mg base (CX1 P w K) 6 fa da ["self", "name"] (spNo K C c (fun | .drop n => some [.int n] | _ => none))
  wher : ∃ fa da, Meth K C "where" fa ∧ Binds K da ["self", "name"] [] ∧ FnOk P w K mg base (CX1 P w K) 6 fa da ["self", "name"] (spNo K C c (fun | .wher n => some [.int n] | _ => none))
def spNoDo (K : PySem.W.Frag) (C : Addr) (c : Rf → Addr) : Sp := fun vs H Q E => ∃ (x t pl d l p : Addr) (size each : Int) (kvs : List (Int × Nat)) (names : List Int) (bs : List Addr) (rs : List Row) (tt : Tell) (r : Rf), vs = [.ref x, .ref t] ∧ H t = some (.tup tt.vs) ∧ SAt K C H x pl d l p size each kvs names bs rs ∧
  tt.rf kvs names = some r ∧ E (.ref (c r)) none H
theorem ok_doX {C : Addr} {c : Rf → Addr} (F : Fun K "do" "do" sDo f fd) (M : MethsX P w K mg base C c) : FnOk P w K mg base (CX1 P w K) 7 f fd ["story", "deed"] (spNoDo K C c) := by
  obtain ⟨f1, d1, m1, b1, G1⟩ := M.come
  obtain ⟨f2, d2, m2, b2, G2⟩ := M.leave
  obtain ⟨f3, d3, m3, b3, G3⟩ := M.put
  obtain ⟨f4, d4, m4, b4, G4⟩ := M.drop
  obtain ⟨f5, d5, m5, b5, G5⟩ := M.wher
  have T := M.T
  refine R.okX F scDo (fun vs H Q E h => ?_) (fun cdv A outer s H vs Q E hr h => ?_)
  · obtain ⟨_, _, _, _, _, _, _, _, _, _, _, _, _, _, rfl, _⟩ := h
    rfl
  · obtain ⟨x, t, pl, d, l, p, size, each, kvs, names, bs, rs, tt, r, rfl, ht, S, hrf, q⟩ := h
    obtain ⟨⟨dx, hx⟩, _⟩ := id S
    refine ⟨_, (pss_cons (ps_set (i := 2) scDo.nd rfl (Or.inl rfl) (pe_ix ix_tup (pv 1) (pe_int) (fun _ _ => rfl))) <|
      pss_cons (ps_if (pt_cmpR op_eq (pv 2) (pe_str) (nomark _)) (pss_one (ps_ret (pe_meth (pv 0) T.cl m1 G1 hr b1 .nil passX (pa_sub (pe_ix ix_tup (pv 1) (pe_int) (fun _ _ => rfl)) (pa_sub (pe_ix ix_tup (pv 1) (pe_int) (fun _ _ => rfl)) pa_nil))))) pss_nil) <|
      pss_cons (ps_if (pt_cmpR op_eq (pv 2) (pe_str) (nomark _)) (pss_one (ps_ret (pe_meth (pv 0) T.cl m2 G2 hr b2 .nil passX (pa_sub (pe_ix ix_tup (pv 1) (pe_int) (fun _ _ => rfl)) pa_nil)))) pss_nil) <|
      pss_cons (ps_if (pt_cmpR op_eq (pv 2) (pe_str) (nomark _)) (pss_one (ps_ret (pe_meth (pv 0) T.cl m3 G3 hr b3 .nil passX (pa_sub (pe_ix ix_tup (pv 1) (pe_int) (fun _ _ => rfl)) pa_nil)))) pss_nil) <|
      pss_cons (ps_if (pt_cmpR op_eq (pv 2) (pe_str) (nomark _)) (pss_one (ps_ret (pe_meth (pv 0) T.cl m4 G4 hr b4 .nil passX (pa_sub (pe_ix ix_tup (pv 1) (pe_int) (fun _ _ => rfl)) pa_nil)))) pss_nil) <|
      pss_one (ps_ret (pe_meth (pv 0) T.cl m5 G5 hr b5 .nil passX (pa_sub (pe_ix ix_tup (pv 1) (pe_int) (fun _ _ => rfl)) pa_nil)))), ?_⟩
    cases tt with
    | come k sh =>
      refine ⟨_, rfl, t, _, 0, V.str "come", rfl, rfl, SqT.of ht, rfl, ?_⟩
      refine ⟨_, rfl, rfl, _, rfl, iteDT rfl ?_⟩
      exact ⟨_, rfl, x, dx, _, rfl, hx, fl_no3 _ _ _ _, _, rfl, t, _, 1, V.int k, rfl, rfl, SqT.of ht, rfl, _, rfl, t, _, 2, V.int sh, rfl, rfl, SqT.of ht, rfl, x, pl, d, l, p, size, each, kvs, names, bs, rs, .come k sh, _, r, rfl, rfl, S, hrf, q⟩
    | leave k =>
      refine ⟨_, rfl, t, _, 0, V.str "leave", rfl, rfl, SqT.of ht, rfl, ?_⟩
      refine ⟨_, rfl, rfl, _, rfl, iteDF (by decide +kernel) ?_⟩
      refine ⟨_, rfl, rfl, _, rfl, iteDT rfl ?_⟩
      exact ⟨_, rfl, x, dx, _, rfl, hx, fl_no4 _ _ _ _, _, rfl, t, _, 1, V.int k, rfl, rfl, SqT.of ht, rfl, x, pl, d, l, p, size, each, kvs, names, bs, rs, .leave k, _, r, rfl, rfl, S, hrf, q⟩
    | put n =>
      refine ⟨_, rfl, t, _, 0, V.str "put", rfl, rfl, SqT.of ht, rfl, ?_⟩
      refine ⟨_, rfl, rfl, _, rfl, iteDF (by decide +kernel) ?_⟩
      refine ⟨_, rfl, rfl, _, rfl, iteDF (by decide +kernel) ?_⟩
      refine ⟨_, rfl, rfl, _, rfl, iteDT rfl ?_⟩
      exact ⟨_, rfl, x, dx, _, rfl, hx, fl_no5 _ _ _ _, _, rfl, t, _, 1, V.int n, rfl, rfl, SqT.of ht, rfl, x, pl, d, l, p, size, each, kvs, names, bs, rs, .put n, _, r, rfl, rfl, S, hrf, q⟩
    | drop n =>
      refine ⟨_, rfl, t, _, 0, V.str "drop", rfl, rfl, SqT.of ht, rfl, ?_⟩
      refine ⟨_, rfl, rfl, _, rfl, iteDF (by decide +kernel) ?_⟩
      refine ⟨_, rfl, rfl, _, rfl, iteDF (by decide +kernel) ?_⟩
      refine ⟨_, rfl, rfl, _, rfl, iteDF (by decide +kernel) ?_⟩
      refine ⟨_, rfl, rfl, _, rfl, iteDT rfl ?_⟩
      exact ⟨_, rfl, x, dx, _, rfl, hx, fl_no6 _ _ _ _, _, rfl, t, _, 1, V.int n, rfl, rfl, SqT.of ht, rfl, x, pl, d, l, p, size, each, kvs, names, bs, rs, .drop n, _, r, rfl, rfl, S, hrf, q⟩
    | wher n =>
      refine ⟨_, rfl, t, _, 0, V.str "where", rfl, rfl, SqT.of ht, rfl, ?_⟩
      refine ⟨_, rfl, rfl, _, rfl, iteDF (by decide +kernel) ?_⟩
      refine ⟨_, rfl, rfl, _, rfl, iteDF (by decide +kernel) ?_⟩
      refine ⟨_, rfl, rfl, _, rfl, iteDF (by decide +kernel) ?_⟩
      refine ⟨_, rfl, rfl, _, rfl, iteDF (by decide +kernel) ?_⟩
      exact ⟨_, rfl, x, dx, _, rfl, hx, fl_no7 _ _ _ _, _, rfl, t, _, 1, V.int n, rfl, rfl, SqT.of ht, rfl, x, pl, d, l, p, size, each, kvs, names, bs, rs, .wher n, _, r, rfl, rfl, S, hrf, q⟩
theorem ok_answerX {C fo : Addr} {dfo : FuncData} {c : Rf → Addr} (F : Fun K "answer_of" "answer_of" sAnswer f fd) (X : Exs K mg c) (Ao : Fn K mg "do" ["story", "deed"] sDo fo dfo) (Go : FnOk P w K mg base (CX1 P w K) 7 fo dfo ["story", "deed"] (spNoDo K C c)) : FnOk P w K mg base CX0 8 f fd ["story", "deed"] (spRef K C) := by
  refine R.ok F scAnswer (fun vs H Q E h => ?_) (fun cdv A outer s H vs Q E hr h => ?_)
  · obtain ⟨_, _, _, _, _, _, _, _, _, _, _, _, _, _, rfl, _⟩ := h
    rfl
  · obtain ⟨x, t, pl, d, l, p, size, each, kvs, names, bs, rs, tt, r, rfl, ht, S, hrf, q⟩ := h
    refine ⟨_, (pss_one (ps_tryX rfl rfl (fun E1 xe ps hp => pss_one (ps_ret (pe_call Go hr (by rfl) Ao.mgf Ao.F.kp Ao.b .nil hp (pa_nm (pv 0) (pa_nm (pv 1) pa_nil))))) (ph_cons (by rfl) (X.mgx .kt) (X.ex .kt) (fun v => pss_one (ps_ret pe_str)) (ph_cons (by rfl) (X.mgx .ns) (X.ex .ns) (fun v => pss_one (ps_ret pe_str)) (ph_cons (by rfl) (X.mgx .nk) (X.ex .nk) (fun v => pss_one (ps_ret pe_str)) (ph_cons (by rfl) (X.mgx .nt) (X.ex .nt) (fun v => pss_one (ps_ret pe_str)) (ph_cons (by rfl) (X.mgx .nn) (X.ex .nn) (fun v => pss_one (ps_ret pe_str)) ph_nil))))))), ?_⟩
    refine ⟨_, rfl, _, rfl, x, t, pl, d, l, p, size, each, kvs, names, bs, rs, tt, r, rfl, ht, S, hrf, fun σ' _ => ?_⟩
    cases r with
    | kt => exact ⟨_, rfl, .inl ⟨X.m .kt .kt, q⟩⟩
    | ns => exact ⟨_, rfl, .inr ⟨X.m .ns .kt, ⟨_, rfl, .inl ⟨X.m .ns .ns, q⟩⟩⟩⟩
    | nk => exact ⟨_, rfl, .inr ⟨X.m .nk .kt, ⟨_, rfl, .inr ⟨X.m .nk .ns, ⟨_, rfl, .inl ⟨X.m .nk .nk, q⟩⟩⟩⟩⟩⟩
    | nt => exact ⟨_, rfl, .inr ⟨X.m .nt .kt, ⟨_, rfl, .inr ⟨X.m .nt .ns, ⟨_, rfl, .inr ⟨X.m .nt .nk, ⟨_, rfl, .inl ⟨X.m .nt .nt, q⟩⟩⟩⟩⟩⟩⟩⟩
    | nn => exact ⟨_, rfl, .inr ⟨X.m .nn .kt, ⟨_, rfl, .inr ⟨X.m .nn .ns, ⟨_, rfl, .inr ⟨X.m .nn .nk, ⟨_, rfl, .inr ⟨X.m .nn .nt, ⟨_, rfl, .inl ⟨X.m .nn .nn, q⟩⟩⟩⟩⟩⟩⟩⟩⟩⟩
end
end RK

set_option autoImplicit false
set_option maxRecDepth 100000
set_option linter.all false
set_option Elab.async false
set_option maxHeartbeats 8000000
namespace RK
open PySem
open L2 hiding pv pe_bltn pe_int pe_bl pe_non pe_str pe_lst pe_tup pe_op pe_ix pe_callB pe_callTy pe_call pe_cmp pe_cmpR pe_and pe_one pe_not pe_slice pe_dget pe_dget1 pe_dnewK pe_bm pt_cmp pt_cmpR pt_not pt_val pw_or pw_or1 pw_and pw_and1 pa_nil pa_cons pa_int pa_nm pa_bin pa_sub pa_call pa_tup pss_cons pss_one pss_nil ps_set ps_if ps_for ps_ret ps_expr ps_dput pg_name pg_tup pgs_nil pgs_cons pi_list pi_tup pi_range1 po_none po_some pc_isN pe_comp ps_setC pf_nil pf_one pc_din pc_dnotin pc_notN pe_dget2 pe_dpop1 pe_un pe_fld ps_fld pi_range2 pe_meth pe_meth0 pe_make pe_sortItems PE PT PW PA PS PSs PC PG PGs PI PO PF
open R hiding ok
section
variable {P : Program} {w : World} {K : PySem.W.Frag} {mg : Str → Option Value} {base : Heap} {f : Addr} {fd : FuncData}
theorem keep_ints (kvs : List (Int × Nat)) : keepD kvs = L2.intsD (kvs.map fun p => (p.1, (p.2 : Int))) := by
  unfold keepD L2.intsD
  rw [List.map_map]
  rfl
def spAfter (K : PySem.W.Frag) : Sp := fun vs H Q _ => ∃ (pl a : Addr) (size each : Int) (ts : List Addr) (dds : List Deed), vs = [.ref pl, .ref a] ∧ SqT K H pl [.int size, .int each] ∧ SqL K H a (ts.map V.ref) ∧ Told H ts dds ∧ goodAll [] [] dds ∧ dds.length ≤ 90 ∧ 0 < size ∧ 0 ≤ each ∧
  ∀ (u p l : Addr) (bs cs : List Addr) (ds : List (List Int)) (H' : Hp), Same H H' → H u = none → H' u = some (.tup [.ref p, .ref l]) → H' p = some (.lst (bs.map V.ref)) → Rows H' bs (dealOf size each (kvAll [] dds) (nmAll [] dds)) → IsDeal size each (kvAll [] dds) (nmAll [] dds) (dealOf size each (kvAll [] dds) (nmAll [] dds)) →
    H' l = some (.lst (cs.map V.ref)) → Tups H' cs ds → ds.Perm ((kvAll [] dds).map fun p => [p.1, (p.2 : Int)]) → ds.Pairwise lexLe → Q (.ref u) H'
theorem scAfter : FnScope ["plan", "deeds", "story", "deed"] ["plan", "deeds"] (defScope sAfter) := ⟨rfl, rfl, rfl, by decide +kernel, rfl, by decide +kernel, by decide +kernel⟩
theorem ok_after {C : Addr} (F : Fun K "ring_after" "ring_after" sAfter f fd) (B : Blt mg) (M : Meths P w K mg base C) (h1 : Has P w K mg base "answer_of" ["story", "deed"] sAnswer 8 (spAns K C)) : FnOk P w K mg base CX0 9 f fd ["plan", "deeds"] (spAfter K) := by
  obtain ⟨ff, dff, Af, Gf⟩ := h1
  obtain ⟨f1, d1, M1, b1, G1⟩ := M.init
  refine R.ok F scAfter (fun vs H Q E h => ?_) (fun cdv A outer s H vs Q E hr h => ?_)
  · obtain ⟨_, _, _, _, _, _, rfl, _⟩ := h
    rfl
  · obtain ⟨pl, a, size, each, ts, dds, rfl, hpl, ha, td, hgood, hlen, hz, he, q⟩ := h
    have hr2 := hr.mono (show 2 ≤ 8 by decide)
    refine ⟨_, (pss_cons (ps_set (i := 2) scAfter.nd rfl (Or.inl rfl) (pe_make M1 G1 hr2 (by rfl) M.T.mgC b1 .nil pass0 (pa_nm (pv 0) pa_nil))) <|
      pss_cons (ps_for PassesOwn.never rfl (pi_list (pv 1)) (pg_name (i := 3) scAfter.nd rfl (Or.inl rfl)) (pss_one (ps_expr (pe_call Gf hr (by rfl) Af.mgf Af.F.kp Af.b .nil pass0 (pa_nm (pv 2) (pa_nm (pv 3) pa_nil)))))) <|
      pss_one (ps_ret (pe_tup (pa_att (pe_fld (pv 2)) (pa_call (pe_sortItems rfl (by rfl) B.sorted (pe_fld (pv 2))) pa_nil))))), ?_⟩
    refine ⟨_, rfl, fun x dx nx ndx nex => ⟨x, dx, pl, rfl, upd_same, fun d l p H1 hx hd hl hp hdn hln hpn nlp kp => ⟨rfl, ?_⟩⟩⟩
    have s0 : Same H (upd (upd H dx (.own x)) x (.ins C dx [])) := fun b o e => by
      rw [upd_ne (ne_of_none e nx), upd_ne (ne_of_none e ndx)]
      exact e
    have s1 : Same H H1 := fun b o e => kp b o (s0 b o e) (ne_of_none e nx)
    have hd0 : H d = none := s0.free hdn
    have hl0 : H l = none := s0.free hln
    have S0 : SAt K C H1 x pl d l p size each [] [] [] [] := ⟨⟨dx, hx⟩, s1.tup hpl, hd, hl, hp, .nil, nlp⟩
    have D0 : IsDeal size each [] [] [] := isDeal_nil
    have e0 : dealOf size each [] [] = [] := D0.eq.symm
    refine ⟨_, rfl, a, rfl, ⟨_, s1.seq ha⟩, ?_⟩
    refine for_list (xs := ts.map V.ref) (fun i σ H' => ∃ (a3 : Option V) (p : Addr) (bs : List Addr), σ = [some (.ref pl), some (.ref a), some (.ref x), a3] ∧ Same H H' ∧
        SAt K C H' x pl d l p size each (kvAll [] (dds.take i)) (nmAll [] (dds.take i)) bs (dealOf size each (kvAll [] (dds.take i)) (nmAll [] (dds.take i))) ∧ IsDeal size each (kvAll [] (dds.take i)) (nmAll [] (dds.take i)) (dealOf size each (kvAll [] (dds.take i)) (nmAll [] (dds.take i))))
      ⟨none, p, [], rfl, s1, ?_, ?_⟩ (fun i σ H' _ ⟨_, _, _, _, sm, _⟩ => sm.seq ha) ?_ ?_
    · rw [List.take_zero]
      show SAt K C _ x pl d l p size each [] [] [] (dealOf size each [] [])
      rw [e0]
      exact S0
    · rw [List.take_zero]
      show IsDeal size each [] [] (dealOf size each [] [])
      rw [e0]
      exact D0
    · rintro i v σ H2 hi ⟨a3, p2, bs, rfl, sm, S, D⟩
      obtain ⟨t, ht, rfl⟩ := ref_at hi
      obtain ⟨dd, hdd, htt⟩ := (td.same sm).at ht
      exact ⟨_, rfl, _, rfl, deed_step hdd hlen hgood hz he htt S D nx hd0 hl0 sm fun H3 p3 bs3 v3 s3 kk av hv hvn hp3 S3 D3 => ⟨_, p3, bs3, rfl, s3, S3, D3⟩⟩
    · rintro σ H2 ⟨a3, p2, bs, rfl, sm, S, D⟩
      have e1 : (ts.map V.ref).length = dds.length := by rw [List.length_map]; exact Paired.length td
      rw [e1, List.take_length] at S D
      obtain ⟨⟨dx2, hx2⟩, _, hdc2, hnm2, hrw2, hrs2, _⟩ := id S
      refine ⟨_, rfl, x, C, dx2, _, _, rfl, hx2, M.T.cl, M.T.nR, fl_rows _ _ _ _, _, rfl, x, C, dx2, _, _, rfl, hx2, M.T.cl, M.T.nS, fl_shares _ _ _ _, d, _, rfl, by rw [← keep_ints]; exact hdc2, by rw [List.length_map]; have := (Fit.nil.all hgood).fw.1; omega, fun y cs g H3 s3 hyn hy hcs hpm hsrt => ?_⟩
      have s23 : Same H2 H3 := s3
      refine ⟨by show 2 ≤ sizeLine; decide, fun u hu => ?_⟩
      have s4 : Same H3 (upd H3 u (.tup [.ref p2, .ref y])) := Same.upd hu
      have tcs : Tups H3 cs (cs.map g) := by
        clear hpm hsrt hy
        induction cs with
        | nil => exact .nil
        | cons c r ih => exact .cons (hcs c List.mem_cons_self) (ih fun b hb => hcs b (List.mem_cons_of_mem _ hb))
      refine q u p2 y bs cs (cs.map g) _ ((sm.trans s23).trans s4) ((sm.trans s23).free hu) upd_same (s4 _ _ (s23 _ _ hrw2)) ((hrs2.same s23).same s4) D (s4 _ _ hy) (tcs.same s4) ?_ hsrt
      rw [List.map_map] at hpm
      exact hpm
end
end RK

set_option autoImplicit false
set_option maxRecDepth 100000
set_option linter.all false
set_option Elab.async false
set_option maxHeartbeats 8000000
namespace RK
open PySem
open L2 hiding pv pe_bltn pe_int pe_bl pe_non pe_str pe_lst pe_tup pe_op pe_ix pe_callB pe_callTy pe_call pe_cmp pe_cmpR pe_and pe_one pe_not pe_slice pe_dget pe_dget1 pe_dnewK pe_bm pt_cmp pt_cmpR pt_not pt_val pw_or pw_or1 pw_and pw_and1 pa_nil pa_cons pa_int pa_nm pa_bin pa_sub pa_call pa_tup pss_cons pss_one pss_nil ps_set ps_if ps_for ps_ret ps_expr ps_dput pg_name pg_tup pgs_nil pgs_cons pi_list pi_tup pi_range1 po_none po_some pc_isN PE PT PW PA PS PSs PC PG PGs PI PO PF
open R hiding ok
section
variable {P : Program} {w : World} {K : PySem.W.Frag} {mg : Str → Option Value} {base : Heap} {f : Addr} {fd : FuncData}
theorem scSo : FnScope ["_law_found", "_law_meant", "_law_k"] ["_law_found", "_law_meant"] (defScope sSo) := ⟨rfl, rfl, rfl, by decide +kernel, rfl, by decide +kernel, by decide +kernel⟩
theorem ok_so (Aa : Fn K mg "_law_so" ["_law_found", "_law_meant"] sSo f fd) (B : Blt mg) : ∀ n, FnOk P w K mg base CX0 n f fd ["_law_found", "_law_meant"] (spSo K n)
  | 0 => ⟨fun vs H Q E h => by obtain ⟨_, _, rfl, _⟩ := h; rfl, fun A outer s H args us vs Q E _ _ _ _ h => by obtain ⟨_, _, _, h, _⟩ := h; exact h.elim⟩
  | n + 1 => by
    have G := ok_so Aa B n
    refine R.ok Aa.F scSo (fun vs H Q E h => ?_) (fun cdv A outer s H vs Q E hr h => ?_)
    · obtain ⟨_, _, rfl, _⟩ := h
      rfl
    · obtain ⟨x, y, rfl, ha, q⟩ := h
      rcases ha with ⟨rfl, ha⟩ | ⟨a, b, xs, ys, rfl, rfl, ha, hl, hsz, k⟩
      · cases ha with
        | non =>
          refine ⟨_, pss_cons (ps_if (pt_cmp (pc_isN (pv 1))) (pss_one (ps_ret (pe_cmp (pc_isN (pv 0))))) pss_nil) pss_never, ?_⟩
          exact ⟨_, rfl, _, rfl, iteT ⟨_, rfl, q H (fun _ _ e => e)⟩⟩
        | bl c =>
          refine ⟨_, pss_cons (ps_if (pt_cmp (pc_isN (pv 1))) pss_never pss_nil)
            (pss_cons (ps_if (pt_val (pe_callB call_isinst (by rfl) B.isinstance (by rfl) (pa_nm (pv 1) (pa_nm (pe_bltn (v := .ty "bool") (by rfl) B.bool (by rfl) rfl) pa_nil))))
              (pss_one (ps_ret (pe_and (pe_callB call_isinst (by rfl) B.isinstance (by rfl) (pa_nm (pv 0) (pa_nm (pe_bltn (v := .ty "bool") (by rfl) B.bool (by rfl) rfl) pa_nil))) (pe_one (pe_cmpR op_eq (pv 0) (pv 1) (nomark _)))))) pss_nil) pss_never), ?_⟩
          refine ⟨_, rfl, _, rfl, iteF ⟨_, rfl, _, _, _, _, rfl, .bl c, kit_eq _ _, true, rfl, iteT ⟨_, rfl, _, _, _, _, rfl, .bl c, kit_eq _ _, true, rfl, iteT ⟨_, rfl, _, rfl, rfl, ?_⟩⟩⟩⟩
          rw [decide_eq_true (rfl : V.bl c = V.bl c)]
          exact q H (fun _ _ e => e)
        | int i =>
          refine ⟨_, pss_cons (ps_if (pt_cmp (pc_isN (pv 1))) pss_never pss_nil)
            (pss_cons (ps_if (pt_val (pe_callB call_isinst (by rfl) B.isinstance (by rfl) (pa_nm (pv 1) (pa_nm (pe_bltn (v := .ty "bool") (by rfl) B.bool (by rfl) rfl) pa_nil)))) pss_never pss_nil)
            (pss_cons (ps_if (pt_val (pe_callB call_isinst (by rfl) B.isinstance (by rfl) (pa_nm (pv 1) (pa_nm (pe_bltn (v := .ty "int") (by rfl) B.int (by rfl) rfl) pa_nil))))
              (pss_one (ps_ret (pe_and (pe_callB call_isinst (by rfl) B.isinstance (by rfl) (pa_nm (pv 0) (pa_nm (pe_bltn (v := .ty "int") (by rfl) B.int (by rfl) rfl) pa_nil))) (pe_and (pe_not (pe_callB call_isinst (by rfl) B.isinstance (by rfl) (pa_nm (pv 0) (pa_nm (pe_bltn (v := .ty "bool") (by rfl) B.bool (by rfl) rfl) pa_nil)))) (pe_one (pe_cmpR op_eq (pv 0) (pv 1) (nomark _))))))) pss_nil) pss_never)), ?_⟩
          refine ⟨_, rfl, _, rfl, iteF ⟨_, rfl, _, _, _, _, rfl, .int i, kit_int_bool _, false, rfl, iteF ⟨_, rfl, _, _, _, _, rfl, .int i, kit_eq _ _, true, rfl, iteT ?_⟩⟩⟩
          refine ⟨_, rfl, _, _, _, _, rfl, .int i, kit_eq _ _, true, rfl, iteT ⟨_, rfl, _, _, _, _, rfl, .int i, kit_int_bool _, false, rfl, true, rfl, iteT ⟨_, rfl, _, rfl, rfl, ?_⟩⟩⟩
          rw [decide_eq_true (rfl : V.int i = V.int i)]
          exact q H (fun _ _ e => e)
        | str z =>
          refine ⟨_, pss_cons (ps_if (pt_cmp (pc_isN (pv 1))) pss_never pss_nil)
            (pss_cons (ps_if (pt_val (pe_callB call_isinst (by rfl) B.isinstance (by rfl) (pa_nm (pv 1) (pa_nm (pe_bltn (v := .ty "bool") (by rfl) B.bool (by rfl) rfl) pa_nil)))) pss_never pss_nil)
            (pss_cons (ps_if (pt_val (pe_callB call_isinst (by rfl) B.isinstance (by rfl) (pa_nm (pv 1) (pa_nm (pe_bltn (v := .ty "int") (by rfl) B.int (by rfl) rfl) pa_nil)))) pss_never pss_nil)
            (pss_cons (ps_if (pt_val (pe_callB call_isinst (by rfl) B.isinstance (by rfl) (pa_nm (pv 1) (pa_nm (pe_bltn (v := .ty "str") (by rfl) B.str (by rfl) rfl) pa_nil))))
              (pss_one (ps_ret (pe_and (pe_callB call_isinst (by rfl) B.isinstance (by rfl) (pa_nm (pv 0) (pa_nm (pe_bltn (v := .ty "str") (by rfl) B.str (by rfl) rfl) pa_nil))) (pe_one (pe_cmpR op_eq (pv 0) (pv 1) (nomark _)))))) pss_nil) pss_never))), ?_⟩
          refine ⟨_, rfl, _, rfl, iteF ⟨_, rfl, _, _, _, _, rfl, .str z, kit_str_bool _, false, rfl, iteF ⟨_, rfl, _, _, _, _, rfl, .str z, kit_str_int _, false, rfl, iteF ⟨_, rfl, _, _, _, _, rfl, .str z, kit_eq _ _, true, rfl, iteT ?_⟩⟩⟩⟩
          refine ⟨_, rfl, _, _, _, _, rfl, .str z, kit_eq _ _, true, rfl, iteT ⟨_, rfl, _, rfl, rfl, ?_⟩⟩
          rw [decide_eq_true (rfl : V.str z = V.str z)]
          exact q H (fun _ _ e => e)
      · rcases ha with ⟨hxa, hyb⟩ | ⟨hxa, hyb⟩
        · refine ⟨_, pss_cons (ps_if (pt_cmp (pc_isN (pv 1))) pss_never pss_nil)
              (pss_cons (ps_if (pt_val (pe_callB call_isinst (by rfl) B.isinstance (by rfl) (pa_nm (pv 1) (pa_nm (pe_bltn (v := .ty "bool") (by rfl) B.bool (by rfl) rfl) pa_nil)))) pss_never pss_nil)
              (pss_cons (ps_if (pt_val (pe_callB call_isinst (by rfl) B.isinstance (by rfl) (pa_nm (pv 1) (pa_nm (pe_bltn (v := .ty "int") (by rfl) B.int (by rfl) rfl) pa_nil)))) pss_never pss_nil)
              (pss_cons (ps_if (pt_val (pe_callB call_isinst (by rfl) B.isinstance (by rfl) (pa_nm (pv 1) (pa_nm (pe_bltn (v := .ty "str") (by rfl) B.str (by rfl) rfl) pa_nil)))) pss_never pss_nil)
              (pss_cons (ps_if (pt_val (pe_callB call_isinst (by rfl) B.isinstance (by rfl) (pa_nm (pv 1) (pa_nm (pe_bltn (v := .ty "dict") (by rfl) B.dict (by rfl) rfl) pa_nil)))) pss_never pss_nil)
              (pss_cons (ps_if (pt_cmpR op_ne (pe_callB call_isinst (by rfl) B.isinstance (by rfl) (pa_nm (pv 1) (pa_nm (pe_bltn (v := .ty "tuple") (by rfl) B.tuple (by rfl) rfl) pa_nil))) (pe_callB call_isinst (by rfl) B.isinstance (by rfl) (pa_nm (pv 0) (pa_nm (pe_bltn (v := .ty "tuple") (by rfl) B.tuple (by rfl) rfl) pa_nil))) (nomark _)) pss_never pss_nil)
              (pss_cons (ps_if (pw_or (pt_cmpR op_ne (pe_callB call_isinst (by rfl) B.isinstance (by rfl) (pa_nm (pv 1) (pa_nm (pe_bltn (v := .ty "list") (by rfl) B.list (by rfl) rfl) pa_nil))) (pe_callB call_isinst (by rfl) B.isinstance (by rfl) (pa_nm (pv 0) (pa_nm (pe_bltn (v := .ty "list") (by rfl) B.list (by rfl) rfl) pa_nil))) (nomark _)) (pw_or1 (pt_not (pt_val (pe_callB call_isinstT (by rfl) B.isinstance (by rfl) (pa_nm (pv 1) (pa_tup (pe_tup (pa_nm (pe_bltn (v := .ty "list") (by rfl) B.list (by rfl) rfl) (pa_nm (pe_bltn (v := .ty "tuple") (by rfl) B.tuple (by rfl) rfl) pa_nil))) pa_nil))))))).pt pss_never pss_nil)
              (pss_cons (ps_if (pt_cmpR op_ne (pe_callB call_len_seq (by rfl) B.len PySem.boot_len (pa_nm (pv 0) pa_nil)) (pe_callB call_len_seq (by rfl) B.len PySem.boot_len (pa_nm (pv 1) pa_nil)) (nomark _)) pss_never pss_nil)
              (pss_cons (ps_for PassesOwn.never rfl (pi_range1 rfl B.range (pa_call (pe_callB call_len_seq (by rfl) B.len PySem.boot_len (pa_nm (pv 1) pa_nil)) pa_nil)) (pg_name (i := 2) scSo.nd rfl (Or.inl rfl))
                (pss_one (ps_if (pt_not (pt_val (pe_call G hr rfl Aa.mgf Aa.F.kp Aa.b .nil pass0 (pa_sub (pe_ix ix_list (pv 0) (pv 2) (fun _ _ => rfl)) (pa_sub (pe_ix ix_list (pv 1) (pv 2) (fun _ _ => rfl)) pa_nil))))) pss_never pss_nil)))
              (pss_one (ps_ret pe_bl)))))))))), ?_⟩
          have ta : TyOf K H (.ref a) (.type "list") := .lst hxa
          have tb : TyOf K H (.ref b) (.type "list") := .lst hyb
          refine ⟨_, rfl, _, rfl, iteF ⟨_, rfl, _, _, _, _, rfl, tb, kit_list_bool _, false, rfl, iteF ⟨_, rfl, _, _, _, _, rfl, tb, kit_list_int _, false, rfl, iteF ⟨_, rfl, _, _, _, _, rfl, tb, kit_list_str _, false, rfl, iteF ⟨_, rfl, _, _, _, _, rfl, tb, kit_list_dict _, false, rfl, iteF ?_⟩⟩⟩⟩⟩
          refine ⟨_, rfl, _, _, _, _, rfl, tb, kit_list_tuple _, _, rfl, _, _, _, _, rfl, ta, kit_list_tuple _, rfl, _, rfl, iteF ?_⟩
          refine ⟨_, rfl, _, _, _, _, rfl, tb, kit_eq _ _, _, rfl, _, _, _, _, rfl, ta, kit_eq _ _, rfl, _, rfl, iteF ⟨_, rfl, by decide, fun p hp => ?_⟩⟩
          have s1 : Same H (upd H p (.tup [.ty "list", .ty "tuple"])) := Same.upd hp
          refine ⟨_, _, _, ["list", "tuple"], _, rfl, tb.same s1, upd_same, kit_any_list _, _, rfl, iteF ?_⟩
          refine ⟨_, rfl, a, xs, rfl, .inl (SqL.of (s1 _ _ hxa)), _, rfl, b, ys, rfl, .inl (SqL.of (s1 _ _ hyb)), rfl, _, rfl, ?_⟩
          rw [hl, decide_eq_true (rfl : V.int (ys.length : Int) = V.int (ys.length : Int))]
          refine iteF ⟨_, rfl, b, ys, rfl, .inl (SqL.of (s1 _ _ hyb)), ((ys.length : Nat) : Int), rfl, by omega, by omega, ?_⟩
          refine for_range (fun i σ H' => ∃ a2, σ = [some (.ref a), some (.ref b), a2] ∧ Same H H') ⟨none, rfl, s1⟩ ?_ ?_
          · rintro i σ H1 hi ⟨a2, rfl, sm⟩
            have hy : i < ys.length := by omega
            have hx : i < xs.length := by omega
            refine ⟨_, rfl, _, rfl, a, xs, _, xs[i], rfl, rfl, SqL.of (sm _ _ hxa), by rw [Int.zero_add]; exact atI_nat (by simp [hx]), _, rfl, _, rfl, b, ys, _, ys[i], rfl, rfl, SqL.of (sm _ _ hyb), by rw [Int.zero_add]; exact atI_nat (by simp [hy]), ?_⟩
            refine ⟨_, _, rfl, (k i _ _ (by simp [hx]) (by simp [hy])).same sm, fun H2 s2 => ⟨_, rfl, iteF ⟨_, rfl, sm.trans s2⟩⟩⟩
          · rintro σ H1 ⟨a2, rfl, sm⟩
            exact q H1 sm
        · refine ⟨_, pss_cons (ps_if (pt_cmp (pc_isN (pv 1))) pss_never pss_nil)
              (pss_cons (ps_if (pt_val (pe_callB call_isinst (by rfl) B.isinstance (by rfl) (pa_nm (pv 1) (pa_nm (pe_bltn (v := .ty "bool") (by rfl) B.bool (by rfl) rfl) pa_nil)))) pss_never pss_nil)
              (pss_cons (ps_if (pt_val (pe_callB call_isinst (by rfl) B.isinstance (by rfl) (pa_nm (pv 1) (pa_nm (pe_bltn (v := .ty "int") (by rfl) B.int (by rfl) rfl) pa_nil)))) pss_never pss_nil)
              (pss_cons (ps_if (pt_val (pe_callB call_isinst (by rfl) B.isinstance (by rfl) (pa_nm (pv 1) (pa_nm (pe_bltn (v := .ty "str") (by rfl) B.str (by rfl) rfl) pa_nil)))) pss_never pss_nil)
              (pss_cons (ps_if (pt_val (pe_callB call_isinst (by rfl) B.isinstance (by rfl) (pa_nm (pv 1) (pa_nm (pe_bltn (v := .ty "dict") (by rfl) B.dict (by rfl) rfl) pa_nil)))) pss_never pss_nil)
              (pss_cons (ps_if (pt_cmpR op_ne (pe_callB call_isinst (by rfl) B.isinstance (by rfl) (pa_nm (pv 1) (pa_nm (pe_bltn (v := .ty "tuple") (by rfl) B.tuple (by rfl) rfl) pa_nil))) (pe_callB call_isinst (by rfl) B.isinstance (by rfl) (pa_nm (pv 0) (pa_nm (pe_bltn (v := .ty "tuple") (by rfl) B.tuple (by rfl) rfl) pa_nil))) (nomark _)) pss_never pss_nil)
              (pss_cons (ps_if (pw_or (pt_cmpR op_ne (pe_callB call_isinst (by rfl) B.isinstance (by rfl) (pa_nm (pv 1) (pa_nm (pe_bltn (v := .ty "list") (by rfl) B.list (by rfl) rfl) pa_nil))) (pe_callB call_isinst (by rfl) B.isinstance (by rfl) (pa_nm (pv 0) (pa_nm (pe_bltn (v := .ty "list") (by rfl) B.list (by rfl) rfl) pa_nil))) (nomark _)) (pw_or1 (pt_not (pt_val (pe_callB call_isinstT (by rfl) B.isinstance (by rfl) (pa_nm (pv 1) (pa_tup (pe_tup (pa_nm (pe_bltn (v := .ty "list") (by rfl) B.list (by rfl) rfl) (pa_nm (pe_bltn (v := .ty "tuple") (by rfl) B.tuple (by rfl) rfl) pa_nil))) pa_nil))))))).pt pss_never pss_nil)
              (pss_cons (ps_if (pt_cmpR op_ne (pe_callB call_len_seq (by rfl) B.len PySem.boot_len (pa_nm (pv 0) pa_nil)) (pe_callB call_len_seq (by rfl) B.len PySem.boot_len (pa_nm (pv 1) pa_nil)) (nomark _)) pss_never pss_nil)
              (pss_cons (ps_for PassesOwn.never rfl (pi_range1 rfl B.range (pa_call (pe_callB call_len_seq (by rfl) B.len PySem.boot_len (pa_nm (pv 1) pa_nil)) pa_nil)) (pg_name (i := 2) scSo.nd rfl (Or.inl rfl))
                (pss_one (ps_if (pt_not (pt_val (pe_call G hr rfl Aa.mgf Aa.F.kp Aa.b .nil pass0 (pa_sub (pe_ix ix_tup (pv 0) (pv 2) (fun _ _ => rfl)) (pa_sub (pe_ix ix_tup (pv 1) (pv 2) (fun _ _ => rfl)) pa_nil))))) pss_never pss_nil)))
              (pss_one (ps_ret pe_bl)))))))))), ?_⟩
          have ta : TyOf K H (.ref a) (.type "tuple") := .tup hxa
          have tb : TyOf K H (.ref b) (.type "tuple") := .tup hyb
          refine ⟨_, rfl, _, rfl, iteF ⟨_, rfl, _, _, _, _, rfl, tb, kit_tuple_bool _, false, rfl, iteF ⟨_, rfl, _, _, _, _, rfl, tb, kit_tuple_int _, false, rfl, iteF ⟨_, rfl, _, _, _, _, rfl, tb, kit_tuple_str _, false, rfl, iteF ⟨_, rfl, _, _, _, _, rfl, tb, kit_tuple_dict _, false, rfl, iteF ?_⟩⟩⟩⟩⟩
          refine ⟨_, rfl, _, _, _, _, rfl, tb, kit_eq _ _, _, rfl, _, _, _, _, rfl, ta, kit_eq _ _, rfl, _, rfl, iteF ?_⟩
          refine ⟨_, rfl, _, _, _, _, rfl, tb, kit_tuple_list _, _, rfl, _, _, _, _, rfl, ta, kit_tuple_list _, rfl, _, rfl, iteF ⟨_, rfl, by decide, fun p hp => ?_⟩⟩
          have s1 : Same H (upd H p (.tup [.ty "list", .ty "tuple"])) := Same.upd hp
          refine ⟨_, _, _, ["list", "tuple"], _, rfl, tb.same s1, upd_same, kit_any_tuple _, _, rfl, iteF ?_⟩
          refine ⟨_, rfl, a, xs, rfl, .inr (SqT.of (s1 _ _ hxa)), _, rfl, b, ys, rfl, .inr (SqT.of (s1 _ _ hyb)), rfl, _, rfl, ?_⟩
          rw [hl, decide_eq_true (rfl : V.int (ys.length : Int) = V.int (ys.length : Int))]
          refine iteF ⟨_, rfl, b, ys, rfl, .inr (SqT.of (s1 _ _ hyb)), ((ys.length : Nat) : Int), rfl, by omega, by omega, ?_⟩
          refine for_range (fun i σ H' => ∃ a2, σ = [some (.ref a), some (.ref b), a2] ∧ Same H H') ⟨none, rfl, s1⟩ ?_ ?_
          · rintro i σ H1 hi ⟨a2, rfl, sm⟩
            have hy : i < ys.length := by omega
            have hx : i < xs.length := by omega
            refine ⟨_, rfl, _, rfl, a, xs, _, xs[i], rfl, rfl, SqT.of (sm _ _ hxa), by rw [Int.zero_add]; exact atI_nat (by simp [hx]), _, rfl, _, rfl, b, ys, _, ys[i], rfl, rfl, SqT.of (sm _ _ hyb), by rw [Int.zero_add]; exact atI_nat (by simp [hy]), ?_⟩
            refine ⟨_, _, rfl, (k i _ _ (by simp [hx]) (by simp [hy])).same sm, fun H2 s2 => ⟨_, rfl, iteF ⟨_, rfl, sm.trans s2⟩⟩⟩
          · rintro σ H1 ⟨a2, rfl, sm⟩
            exact q H1 sm
end
end RK

set_option autoImplicit false
set_option maxRecDepth 100000
set_option linter.all false
set_option Elab.async false
set_option maxHeartbeats 8000000
namespace RK
open PySem L2
section
variable {P : Program} {w : World} {K : PySem.W.Frag} {mg : Str → Option Value} {base : Heap} {f : Addr} {fd : FuncData}
theorem scWhole : FnScope ["_law_found"] ["_law_found"] (defScope sWhole) := ⟨rfl, rfl, rfl, by decide +kernel, rfl, by decide +kernel, by decide +kernel⟩
theorem ok_whole (F : Fun K "_law_whole" "_law_whole" sWhole f fd) (B : Blt mg) : FnOk P w K mg base CX0 1 f fd ["_law_found"] spWhole := by
  refine F.ok scWhole (fun vs H Q E h => ?_) (fun cdv A outer s H vs Q E hr h => ?_)
  · obtain ⟨_, rfl, _⟩ := h
    rfl
  · obtain ⟨i, rfl, k⟩ := h
    refine ⟨_, pss_one (ps_ret (pe_and (pe_callB call_isinst (by rfl) B.isinstance (by rfl) (pa_cons (pv 0) (pa_cons (pe_bltn (v := .ty "int") (by rfl) B.int PyProof.Rows.boot_int rfl) pa_nil)))
      (pe_one (pe_not (pe_callB call_isinst (by rfl) B.isinstance (by rfl) (pa_cons (pv 0) (pa_cons (pe_bltn (v := .ty "bool") (by rfl) B.bool (by rfl) rfl) pa_nil))))))), ?_⟩
    refine ⟨_, rfl, _, _, _, _, rfl, .int i, kit_eq _ _, true, rfl, iteT ?_⟩
    exact ⟨_, rfl, _, _, _, _, rfl, .int i, kit_int_bool _, false, rfl, k⟩
end
end RK

set_option autoImplicit false
set_option maxRecDepth 100000
set_option linter.all false
set_option Elab.async false
set_option maxHeartbeats 8000000
namespace RK
open PySem L2
section
variable {P : Program} {w : World} {K : PySem.W.Frag} {mg : Str → Option Value} {base : Heap} {f : Addr} {fd : FuncData}
theorem scAt : FnScope ["_law_script", "_law_k"] ["_law_script", "_law_k"] (defScope sAt) := ⟨rfl, rfl, rfl, by decide +kernel, rfl, by decide +kernel, by decide +kernel⟩
theorem ok_at (F : Fun K "_law_at" "_law_at" sAt f fd) (B : Blt mg) : FnOk P w K mg base CX0 1 f fd ["_law_script", "_law_k"] (spAt K) := by
  refine F.ok scAt (fun vs H Q E h => ?_) (fun cdv A outer s H vs Q E hr h => ?_)
  · obtain ⟨_, _, _, rfl, _⟩ := h
    rfl
  · obtain ⟨a, ns, j, rfl, hq, k⟩ := h
    refine ⟨_, pss_cons (ps_if (pt_cmpR op_lt (pv 1) (pe_callB call_len_seq (by rfl) B.len PySem.boot_len (pa_cons (pv 0) pa_nil)) (nomark _)) (pss_one (ps_ret (pe_ix ix_list (pv 0) (pv 1) (fun _ _ => rfl)))) pss_nil) (pss_one (ps_ret pe_int)), ?_⟩
    refine ⟨_, rfl, _, rfl, a, _, rfl, .inl hq, _, _, rfl, rfl, _, rfl, ?_⟩
    refine ite2 (fun hc => ?_) (fun hc => ?_)
    · have hc' : (j : Int) < ((ns.map V.int).length : Int) := of_decide_eq_true hc
      rw [List.length_map] at hc'
      have hj : j < ns.length := by omega
      have e : ns.getD j 0 = ns[j] := by simp [hj]
      rw [e] at k
      exact ⟨_, rfl, _, rfl, a, _, _, V.int ns[j], rfl, rfl, hq, atI_nat (by rw [List.getElem?_map]; simp [hj]), k⟩
    · have hc' : ¬ (j : Int) < ((ns.map V.int).length : Int) := fun z => hc (decide_eq_true z)
      rw [List.length_map] at hc'
      have e : ns.getD j 0 = 0 := by simp [show ns.length ≤ j by omega]
      rw [e] at k
      exact k
end
end RK

set_option autoImplicit false
set_option maxRecDepth 100000
set_option linter.all false
set_option Elab.async false
set_option maxHeartbeats 8000000
namespace RK
open PySem L2
section
variable {P : Program} {w : World} {K : PySem.W.Frag} {mg : Str → Option Value} {base : Heap} {f : Addr} {fd : FuncData}
theorem scFrom : FnScope ["_law_size", "_law_name", "_law_keeper", "_law_share", "_law_here", "_law_best", "_law_turn", "_law_post", "_law_way"] ["_law_size", "_law_name", "_law_keeper", "_law_share"] (defScope sFrom) := ⟨rfl, rfl, rfl, by decide +kernel, rfl, by decide +kernel, by decide +kernel⟩
theorem ok_from (F : Fun K "_law_way_from" "_law_way_from" sFrom f fd) (B : Blt mg) : FnOk P w K mg base CX0 1 f fd ["_law_size", "_law_name", "_law_keeper", "_law_share"] spFrom := by
  refine F.ok scFrom (fun vs H Q E h => ?_) (fun cdv A outer s H vs Q E hr h => ?_)
  · obtain ⟨_, _, _, _, rfl, _⟩ := h
    rfl
  · obtain ⟨size, n, k, share, rfl, hz, hb, h1, h2, q⟩ := h
    refine ⟨_, pss_cons (ps_set (i := 4) scFrom.nd rfl (Or.inl rfl) (pe_op op_mod (pe_op op_mulB (pe_op op_add (pe_op op_mul pe_int (pv 1)) pe_int) (pv 1)) (pv 0)))
      (pss_cons (ps_set (i := 5) scFrom.nd rfl (Or.inl rfl) pe_non)
      (pss_cons (ps_for PassesOwn.never rfl (pi_range1 rfl B.range (pa_cons (pv 3) pa_nil)) (pg_name (i := 6) scFrom.nd rfl (Or.inl rfl))
        (pss_cons (ps_set (i := 7) scFrom.nd rfl (Or.inl rfl) (pe_op op_mod (pe_op op_add (pe_op op_add (pe_op op_mul (pe_op op_add (pe_op op_mul pe_int (pv 6)) pe_int) (pv 6)) (pe_op op_mul pe_int (pv 2))) pe_int) (pv 0)))
        (pss_cons (ps_set (i := 8) scFrom.nd rfl (Or.inl rfl) (pe_op op_sub (pv 7) (pv 4)))
        (pss_cons (ps_if (pt_cmpR op_lt (pv 8) pe_int (nomark _)) (pss_one (ps_set (i := 8) scFrom.nd rfl (Or.inl rfl) (pe_op op_add (pv 8) (pv 0)))) pss_nil)
        (pss_one (ps_if (pw_or (pt_cmp (pc_isN (pv 5))) (pw_or1 (pt_cmpR op_lt (pv 8) (pv 5) (nomark _)))).pt (pss_one (ps_set (i := 5) scFrom.nd rfl (Or.inl rfl) (pv 8))) pss_nil))))))
      (pss_one (ps_ret (pv 5))))), ?_⟩
    have h31 : ((31 : Int) * n + 7).natAbs < 2 ^ 1000 := by
      have h3 : ((31 : Int) * n).natAbs < 2 ^ (5 + 400) := natAbs_mul_lt (by decide) hb
      have h4 : ((31 : Int) * n + 7).natAbs ≤ ((31 : Int) * n).natAbs + 7 := Int.natAbs_add_le _ _
      have h5 : (2 : Nat) ^ (5 + 400) + 7 < 2 ^ 1000 := by
        have e1 : (2 : Nat) ^ 1000 = 2 ^ (5 + 400) * 2 ^ 595 := by rw [← Nat.pow_add]
        have e2 : 8 ≤ (2 : Nat) ^ (5 + 400) := Nat.le_trans (by decide : 8 ≤ 2 ^ 3) (Nat.pow_le_pow_right (by decide) (by decide))
        have e3 : 2 ≤ (2 : Nat) ^ 595 := Nat.le_trans (by decide : 2 ≤ 2 ^ 1) (Nat.pow_le_pow_right (by decide) (by decide))
        have e4 : (2 : Nat) ^ (5 + 400) * 2 ≤ 2 ^ (5 + 400) * 2 ^ 595 := Nat.mul_le_mul_left _ e3
        rw [e1]
        omega
      omega
    refine ⟨_, rfl, _, _, rfl, rfl, .inl ⟨by decide, by decide⟩, _, _, rfl, rfl, _, rfl, _, _, rfl, rfl, mulB h31 (big_mono hb (by decide)), _, rfl, _, _, rfl, rfl, hz, ?_⟩
    dsimp only
    rw [RD.place_alt]
    refine ⟨_, rfl, (share : Int), rfl, by omega, by omega, ?_⟩
    have hpl := RD.place_lt hz n
    refine for_range (n := (share : Int).toNat) (fun i σ H' => i ≤ share ∧ H' = H ∧ ∃ a6 a7 a8, σ = [some (.int size), some (.int n), some (.int k), some (.int (share : Int)), some (.int (RD.place size n)), some (bestV size n k i), a6, a7, a8])
      ⟨Nat.zero_le _, rfl, none, none, none, rfl⟩ ?_ ?_
    · rintro i σ H' hi ⟨_, rfl, a6, a7, a8, rfl⟩
      have hi' : i < share := by omega
      refine ⟨_, rfl, _, _, rfl, rfl, .inl ⟨by decide, by decide⟩, _, _, rfl, rfl, _, rfl, _, _, rfl, rfl, .inr ⟨by omega, by omega⟩, _, rfl, _, _, rfl, rfl, .inl ⟨by decide, by decide⟩, _, _, rfl, rfl, _, _, rfl, rfl, _, rfl, _, _, rfl, rfl, hz, ?_⟩
      dsimp only
      rw [Int.zero_add, RD.post_alt]
      have hpo := RD.post_lt hz k i
      refine ⟨_, rfl, _, rfl, _, _, rfl, rfl, _, rfl, _, _, rfl, rfl, _, rfl, ?_⟩
      have hv := RD.stp_val hpl hpo
      refine ite2 (fun hc => ?_) (fun hc => ?_)
      · have hc' := of_decide_eq_true hc
        rw [if_pos hc'] at hv
        refine ⟨_, rfl, _, rfl, _, _, rfl, rfl, ?_⟩
        exact best_step (i := i) hv.symm ⟨by omega, rfl, _, _, _, rfl⟩
      · have hc' : ¬ (RD.post size k ↑i - RD.place size n < 0) := fun z => hc (decide_eq_true z)
        rw [if_neg hc'] at hv
        exact best_step (i := i) hv.symm ⟨by omega, rfl, _, _, _, rfl⟩
    · rintro σ H' ⟨_, rfl, a6, a7, a8, rfl⟩
      have e : (share : Int).toNat = share := by omega
      refine ⟨_, rfl, ?_⟩
      rw [e]
      unfold bestV
      rw [if_neg (by omega)]
      exact q
end
end RK

set_option autoImplicit false
set_option maxRecDepth 100000
set_option linter.all false
set_option Elab.async false
set_option maxHeartbeats 8000000
namespace RK
open PySem
open L2 hiding pv pe_bltn pe_int pe_bl pe_non pe_str pe_lst pe_tup pe_op pe_ix pe_callB pe_callTy pe_call pe_cmp pe_cmpR pe_and pe_one pe_not pe_slice pe_dget pe_dget1 pe_dnewK pe_bm pt_cmp pt_cmpR pt_not pt_val pw_or pw_or1 pw_and pw_and1 pa_nil pa_cons pa_int pa_nm pa_bin pa_sub pa_call pa_tup pss_cons pss_one pss_nil ps_set ps_if ps_for ps_ret ps_expr ps_dput pg_name pg_tup pgs_nil pgs_cons pi_list pi_tup pi_range1 po_none po_some pc_isN PE PT PW PA PS PSs PC PG PGs PI PO PF
open R hiding ok
section
variable {P : Program} {w : World} {K : PySem.W.Frag} {mg : Str → Option Value} {base : Heap} {f : Addr} {fd : FuncData}
theorem scPlan : FnScope ["_law_cell", "_law_size", "_law_each"] ["_law_cell"] (defScope sPlan) := ⟨rfl, rfl, rfl, by decide +kernel, rfl, by decide +kernel, by decide +kernel⟩
theorem ok_plan (F : Fun K "_law_plan_by" "_law_plan_by" sPlan f fd) (B : Blt mg) : FnOk P w K mg base CX0 1 f fd ["_law_cell"] spPlan := by
  refine R.ok F scPlan (fun vs H Q E h => ?_) (fun cdv A outer s H vs Q E hr h => ?_)
  · obtain ⟨_, rfl, _⟩ := h
    rfl
  · obtain ⟨c, rfl, q⟩ := h
    refine ⟨_, pss_cons (ps_set (i := 1) scPlan.nd rfl (Or.inl rfl) (pe_ix ix_list (pe_lst (pa_int (pa_int (pa_int (pa_int (pa_int (pa_int (pa_int pa_nil)))))))) (pe_op op_mod (pe_op op_mod (pe_op op_mul (pv 0) pe_int) pe_int) pe_int) (fun _ _ => rfl)))
      (pss_cons (ps_if (pt_cmpR op_eq (pe_op op_mod (pe_op op_mod (pe_op op_mul (pv 0) pe_int) pe_int) pe_int) pe_int (nomark _))
        (pss_one (ps_set (i := 1) scPlan.nd rfl (Or.inl rfl) (pe_op op_add pe_int (pe_op op_mod (pv 0) (pe_callTy call_int_text (by rfl) B.int PyProof.Rows.boot_int (pa_cons (pe_op op_add_str pe_str (pe_op op_mul_0 pe_str pe_int)) pa_nil)))))) pss_nil)
      (pss_cons (ps_set (i := 2) scPlan.nd rfl (Or.inl rfl) (pe_ix ix_list (pe_lst (pa_int (pa_int (pa_int (pa_int (pa_int (pa_int (pa_int (pa_int pa_nil))))))))) (pe_op op_mod (pe_op op_mod (pe_op op_mul (pv 0) pe_int) pe_int) pe_int) (fun _ _ => rfl)))
      (pss_one (ps_ret (pe_tup (pa_cons (pv 1) (pa_cons (pv 2) pa_nil))))))), ?_⟩
    refine ⟨by decide, fun p hp => ⟨_, rfl, _, _, rfl, rfl, .inr ⟨by decide, by decide⟩, _, _, rfl, rfl, Int.ofNat_lt.mpr (by decide), _, _, rfl, rfl, Int.ofNat_lt.mpr (by decide), ?_⟩⟩
    obtain ⟨size, hm, ha⟩ := pick_mod (vs := [1, 7, 12, 60, 1000, 1000000000039, 7]) (c := c * 48271 % 1009) (m := 7) rfl (by decide)
    refine ⟨p, _, _, V.int size, rfl, rfl, SqL.of upd_same, ha, ?_⟩
    have hsz : 0 < size ∧ size ≤ 10 ^ 90 := (by decide : ∀ v ∈ ([1, 7, 12, 60, 1000, 1000000000039, 7] : List Int), 0 < v ∧ v ≤ 10 ^ 90) _ hm
    have fin : ∀ (z : Int) (H1 : Hp), 0 < z → z ≤ 10 ^ 90 → Same H H1 → (tSeq (tAsg (tOp (rIxL K) (tLst (tCons (tC (V.int 1)) (tCons (tC (V.int 2)) (tCons (tC (V.int 3)) (tCons (tC (V.int 1)) (tCons (tC (V.int 2)) (tCons (tC (V.int 3)) (tCons (tC (V.int 1)) (tCons (tC (V.int 100000000000000000000)) tNil)))))))))
        (tOp (rI (fun x j => 0 < j) fun i j => V.int (i % j)) (tOp (rI (fun x j => 0 < j) fun i j => V.int (i % j)) (tOp (rI CMul fun i j => V.int (i * j)) (tVar 0) (tC (V.int 48271))) (tC (V.int 1013))) (tC (V.int 8)))) (gName 2))
        (tRet (tTup (tCons (tVar 1) (tCons (tVar 2) tNil))))) { nx := fun x H' => Q V.non H', rt := Q } [some (.int c), some (.int z), none] H1 := by
      intro z H1 h1 h2 sm
      refine ⟨by decide, fun p hp => ⟨_, rfl, _, _, rfl, rfl, .inr ⟨by decide, by decide⟩, _, _, rfl, rfl, Int.ofNat_lt.mpr (by decide), _, _, rfl, rfl, Int.ofNat_lt.mpr (by decide), ?_⟩⟩
      obtain ⟨each, hm, ha⟩ := pick_mod (vs := [1, 2, 3, 1, 2, 3, 1, 100000000000000000000]) (c := c * 48271 % 1013) (m := 8) rfl (by decide)
      refine ⟨p, _, _, V.int each, rfl, rfl, SqL.of upd_same, ha, ?_⟩
      have he : 1 ≤ each ∧ each ≤ 10 ^ 20 := (by decide : ∀ v ∈ ([1, 2, 3, 1, 2, 3, 1, 100000000000000000000] : List Int), 1 ≤ v ∧ v ≤ 10 ^ 20) _ hm
      refine ⟨_, rfl, _, rfl, by show 2 ≤ sizeLine; decide, fun t ht => ?_⟩
      exact q t z each _ ((sm.tr hp).tr ht) ((sm.tr hp).free ht) upd_same h1 h2 he.1 he.2
    refine ⟨_, rfl, _, _, rfl, rfl, .inr ⟨by decide, by decide⟩, _, _, rfl, rfl, Int.ofNat_lt.mpr (by decide), _, _, rfl, rfl, Int.ofNat_lt.mpr (by decide), ?_⟩
    refine ⟨rfl, _, rfl, ite2 (fun _ => ?_) (fun _ => ?_)⟩
    · refine ⟨_, rfl, rfl, rfl, _, _, rfl, rfl, ten90_add, _, _, rfl, ten90, ten90_len, _, _, rfl, rfl, Int.pow_pos (by decide), _, _, rfl, rfl, ?_⟩
      have m1 := Int.emod_nonneg c (show (10 ^ 90 : Int) ≠ 0 by decide)
      have m2 := Int.emod_lt_of_pos c (show (0 : Int) < 10 ^ 90 by decide)
      exact fin (1 + c % 10 ^ 90) _ (by omega) (by omega) (Same.upd hp)
    · exact fin size _ hsz.1 hsz.2 (Same.upd hp)
end
end RK

set_option autoImplicit false
set_option maxRecDepth 100000
set_option linter.all false
set_option Elab.async false
set_option maxHeartbeats 8000000
namespace RK
open PySem
open L2 hiding pv pe_bltn pe_int pe_bl pe_non pe_str pe_lst pe_tup pe_op pe_ix pe_callB pe_callTy pe_call pe_cmp pe_cmpR pe_and pe_one pe_not pe_slice pe_dget pe_dget1 pe_dnewK pe_bm pt_cmp pt_cmpR pt_not pt_val pw_or pw_or1 pw_and pw_and1 pa_nil pa_cons pa_int pa_nm pa_bin pa_sub pa_call pa_tup pss_cons pss_one pss_nil ps_set ps_if ps_for ps_ret ps_expr ps_dput pg_name pg_tup pgs_nil pgs_cons pi_list pi_tup pi_range1 po_none po_some pc_isN pe_comp ps_setC pf_nil pf_one pc_din pc_dnotin pc_notN PE PT PW PA PS PSs PC PG PGs PI PO PF
open R hiding ok
section
variable {P : Program} {w : World} {K : PySem.W.Frag} {mg : Str → Option Value} {base : Heap} {f : Addr} {fd : FuncData}
def colD (size n : Int) (kvs : List (Int × Nat)) : List (List Int) := kvs.map fun p => [RD.way size n p.1 p.2, n, p.1]
def pairsN (size : Int) (kvs : List (Int × Nat)) (names : List Int) : List (List Int) := names.flatMap fun n => colD size n kvs
theorem pairsN_snoc {size : Int} {kvs : List (Int × Nat)} {names : List Int} {i : Nat} {n : Int} (h : names[i]? = some n) : pairsN size kvs (names.take (i + 1)) = pairsN size kvs (names.take i) ++ colD size n kvs := by
  unfold pairsN
  rw [take_snoc h, List.flatMap_append]
  simp
theorem pairsN_len {size : Int} {kvs : List (Int × Nat)} {names : List Int} : (pairsN size kvs names).length = names.length * kvs.length := by
  unfold pairsN
  rw [List.length_flatMap]
  induction names with
  | nil => simp
  | cons p r ih =>
    rw [List.map_cons, List.sum_cons, ih, List.length_cons]
    have : (colD size p kvs).length = kvs.length := by simp [colD]
    rw [this, Nat.succ_mul, Nat.add_comm]
theorem pairsN_mem {size : Int} {kvs : List (Int × Nat)} {names : List Int} {d : List Int} : d ∈ pairsN size kvs names ↔ d ∈ pairsD size kvs names := by
  rw [pairsD_mem]
  unfold pairsN colD
  rw [List.mem_flatMap]
  constructor
  · rintro ⟨n, hn, h⟩
    obtain ⟨p, hp, e⟩ := List.mem_map.mp h
    exact ⟨p, hp, n, hn, e.symm⟩
  · rintro ⟨p, hp, n, hn, e⟩
    exact ⟨n, hn, List.mem_map.mpr ⟨p, hp, e.symm⟩⟩
theorem pairsN_nodup {size : Int} {kvs : List (Int × Nat)} (nk : (kvs.map (·.1)).Nodup) : ∀ {names : List Int}, names.Nodup → (pairsN size kvs names).Nodup
  | [], _ => List.nodup_nil
  | m :: r, nd => by
    rw [List.nodup_cons] at nd
    have e : pairsN size kvs (m :: r) = colD size m kvs ++ pairsN size kvs r := by unfold pairsN; rw [List.flatMap_cons]
    rw [e, List.nodup_append]
    refine ⟨?_, pairsN_nodup nk nd.2, fun a ha b hb => ?_⟩
    · unfold colD List.Nodup
      rw [List.pairwise_map]
      unfold List.Nodup at nk
      rw [List.pairwise_map] at nk
      exact nk.imp fun h z => h (by injection z with _ z; injection z with _ z; injection z)
    · intro z
      subst z
      obtain ⟨q, hq, n, hn, e1⟩ := pairsD_mem.mp (pairsN_mem.mp hb)
      unfold colD at ha
      obtain ⟨p, hp, e2⟩ := List.mem_map.mp ha
      rw [e1] at e2
      injection e2 with _ e2
      injection e2 with e2 _
      exact nd.1 (by rw [e2]; exact hn)
theorem pairsN_perm {size : Int} {kvs : List (Int × Nat)} {names : List Int} (nk : (kvs.map (·.1)).Nodup) (nn : names.Nodup) : (pairsN size kvs names).Perm (pairsD size kvs names) :=
  (List.perm_ext_iff_of_nodup (pairsN_nodup nk nn) (pairsD_nodup nn nk)).mpr fun _ => pairsN_mem
theorem putK_len {κ : Type} [DecidableEq κ] (kvs : List (κ × V)) (k : κ) (v : V) : (putK kvs k v).length ≤ kvs.length + 1 := by
  unfold putK
  split
  · simp
  · simp
theorem scOwnD : FnScope ["_law_plan", "_law_keepers", "_law_names", "_law_pairs", "_law_name", "_law_keeper", "_law_way", "_law_deal", "_law_many"] ["_law_plan", "_law_keepers", "_law_names"] (defScope sOwnDeal) := ⟨rfl, rfl, rfl, by decide +kernel, rfl, by decide +kernel, by decide +kernel⟩
theorem csOwnD : CScope (defScope sOwnDeal) ["_law_plan", "_law_keepers", "_law_names", "_law_pairs", "_law_name", "_law_keeper", "_law_way", "_law_deal", "_law_many"] ["_law_name", "_law_deal"] [none, some 7] (compScope (retE sOwnDeal 5)) :=
  ⟨rfl, by decide +kernel, by decide +kernel, rfl, by decide +kernel, by decide +kernel, fun j i hj h => by
    match j, hj, h with
    | 0, _, h => cases h
    | 1, _, h => cases h; exact ⟨_, rfl, rfl, by decide +kernel⟩⟩
theorem ok_owndeal (F : Fun K "_law_own_deal" "_law_own_deal" sOwnDeal f fd) (B : Blt mg) (h9 : Has P w K mg base "_law_way_from" ["_law_size", "_law_name", "_law_keeper", "_law_share"] sFrom 1 spFrom) : FnOk P w K mg base CX0 2 f fd ["_law_plan", "_law_keepers", "_law_names"] (spDeal K) := by
  obtain ⟨fy, dfy, Ay, Gy⟩ := h9
  refine R.ok F scOwnD (fun vs H Q E h => ?_) (fun cdv A outer s H vs Q E hr h => ?_)
  · obtain ⟨_, _, _, _, _, _, _, rfl, _⟩ := h
    rfl
  · obtain ⟨pl, d, l, size, each, kvs, names, rfl, hpl, hd, hl, hz, he, hok, hno, nn, hk1, hn1, q⟩ := h
    have hu := hu_of hr
    refine ⟨_, (pss_cons (ps_set (i := 3) scOwnD.nd rfl (Or.inl rfl) (pe_lst pa_nil)) <|
      pss_cons (ps_for PassesOwn.never rfl (pi_list (pv 2)) (pg_name (i := 4) scOwnD.nd rfl (Or.inl rfl)) (pss_one (ps_for PassesOwn.never rfl (pi_list (pe_callTy (call_listD rfl) (by rfl) B.list (by rfl) (pa_nm (pv 1) pa_nil))) (pg_name (i := 5) scOwnD.nd rfl (Or.inl rfl)) (pss_cons (ps_set (i := 6) scOwnD.nd rfl (Or.inl rfl) (pe_call Gy hr (by rfl) Ay.mgf Ay.F.kp Ay.b .nil pass0 (pa_sub (pe_ix ix_tup (pv 0) (pe_int) (fun _ _ => rfl)) (pa_nm (pv 4) (pa_nm (pv 5) (pa_sub (pe_dget hu (pv 1) (pv 5) (fun _ _ => rfl)) pa_nil)))))) <|
          pss_one (ps_expr (pe_bm PySem.F.plainAttrs_list PySem.F.slot_list_append PySem.F.type_list_append mt_append (pv 3) (pa_tup (pe_tup (pa_nm (pv 6) (pa_nm (pv 4) (pa_nm (pv 5) pa_nil)))) pa_nil))))))) <|
      pss_cons (ps_set (i := 7) scOwnD.nd rfl (Or.inr rfl) (pe_dnewK)) <|
      pss_cons (ps_set (i := 8) scOwnD.nd rfl (Or.inl rfl) (pe_dnewK)) <|
      pss_cons (ps_for PassesOwn.never rfl (pi_list (pe_callB call_sortedT (by rfl) B.sorted (by rfl) (pa_nm (pv 3) pa_nil))) (pg_tup rfl (pgs_cons (pg_name (i := 6) scOwnD.nd rfl (Or.inl rfl)) (pgs_cons (pg_name (i := 4) scOwnD.nd rfl (Or.inl rfl)) (pgs_cons (pg_name (i := 5) scOwnD.nd rfl (Or.inl rfl)) pgs_nil)))) (pss_one (ps_if ((pw_and (pt_cmp (pc_dnotin hu (pv 4) (pv 7))) (pw_and1 (pt_cmpR op_lt (pe_dget2 hu (pv 8) (pv 5) (pe_int) ⟨by rfl, by rfl, by rfl, by rfl⟩) (pe_op op_mul (pe_ix ix_tup (pv 0) (pe_int) (fun _ _ => rfl)) (pe_dget hu (pv 1) (pv 5) (fun _ _ => rfl))) (nomark _)))).pt) (pss_cons (ps_dput hu (pv 7) (pv 4) (pv 5) rfl) <|
          pss_one (ps_dput hu (pv 8) (pv 5) (pe_op op_add (pe_dget2 hu (pv 8) (pv 5) (pe_int) ⟨by rfl, by rfl, by rfl, by rfl⟩) (pe_int)) rfl)) pss_nil))) <|
      pss_one (ps_ret (pe_comp csOwnD rfl rfl rfl (pi_list (pe_callB call_sortedI (by rfl) B.sorted (by rfl) (pa_nm (pv 2) pa_nil))) (fun cl s₀ H₀ fp => pg_name (i := 0) csOwnD.nd rfl (Or.inl rfl) (Or.inr rfl)) (fun cl s₀ H₀ fp => pf_nil) (fun cl s₀ H₀ fp => pe_tup (pa_nm (pv 0) (pa_call (pe_dget1 hu (pv 1) (pv 0) ⟨by rfl, by rfl, by rfl, by rfl⟩) pa_nil)))))), ?_⟩
    have hg : ∀ {H' : Hp} {k : Int} {sh : Nat}, Same H H' → (k, sh) ∈ kvs → DGet H' d (.int k) (some (.int (sh : Int))) := fun {H' k sh} sm hk => by
      have := DGet.k (k := Sum.inl k) (sm _ _ hd)
      rw [keepD_get hok.1 hk] at this
      exact this
    refine ⟨Nat.zero_le _, fun pr hpr => ?_⟩
    have s0 : Same H (upd H pr (.lst [])) := Same.upd hpr
    refine ⟨_, rfl, l, rfl, ⟨_, s0.seq hl⟩, ?_⟩
    refine for_list (xs := names.map V.int) (fun i σ H' => ∃ (a4 a5 a6 : Option V) (bs : List Addr), σ = [some (.ref pl), some (.ref d), some (.ref l), some (.ref pr), a4, a5, a6, none, none] ∧ Same H H' ∧ H' pr = some (.lst (bs.map V.ref)) ∧ Tups H' bs (pairsN size kvs (names.take i)) ∧ ∀ b ∈ bs, H b = none)
      ⟨none, none, none, [], rfl, s0, upd_same, .nil, fun b hb => by cases hb⟩ (fun i σ H' _ ⟨_, _, _, _, _, sm, _⟩ => sm.seq hl) ?_ ?_
    · rintro i x σ H1 hi ⟨a4, a5, a6, bs, rfl, sm1, hpr1, tb1, hf1⟩
      obtain ⟨n, hn, hin, hil, rfl⟩ := int_at hi
      refine ⟨_, rfl, d, keepD kvs, rfl, .inl (sm1 _ _ hd), fun l1 hl1 => ⟨l1, rfl, ⟨_, SqL.of upd_same⟩, ?_⟩⟩
      rw [keys_ints]
      have n1 : pr ≠ l1 := ne_of_none hpr1 hl1
      refine for_list (xs := (kvs.map (·.1)).map V.int) (fun j σ H' => ∃ (a5 a6 : Option V) (bs : List Addr), σ = [some (.ref pl), some (.ref d), some (.ref l), some (.ref pr), some (.int n), a5, a6, none, none] ∧ Same H H' ∧ H' l1 = some (.lst ((kvs.map (·.1)).map V.int)) ∧ H' pr = some (.lst (bs.map V.ref)) ∧ Tups H' bs (pairsN size kvs (names.take i) ++ colD size n (kvs.take j)) ∧ ∀ b ∈ bs, H b = none)
        ⟨_, _, bs, rfl, sm1.tr hl1, upd_same, by rw [upd_ne n1]; exact hpr1, by rw [List.take_zero]; show Tups _ bs (_ ++ []); rw [List.append_nil]; exact tb1.fresh hl1, hf1⟩ (fun j σ H' _ ⟨_, _, _, _, _, h, _⟩ => SqL.of h) ?_ ?_
      · rintro j y σ H2 hj ⟨a5, a6, bs, rfl, sm2, hl2, hpr2, tb2, hf2⟩
        obtain ⟨k, hk, _, _, rfl⟩ := int_at hj
        obtain ⟨⟨k', sh⟩, hkv, e1⟩ := map_at hk
        dsimp only at e1
        subst e1
        have hkin := List.mem_of_getElem? hkv
        obtain ⟨_, hs1, hs2⟩ := hok.2 _ hkin
        dsimp only at hs1 hs2
        refine ⟨_, rfl, pl, _, 0, V.int size, rfl, rfl, sm2.tup hpl, rfl, _, rfl, _, rfl, _, rfl, _, rfl, d, _, rfl, hg sm2 hkin, size, n, k', sh, rfl, hz, big_of (hno n hin), hs1, by omega, ?_⟩
        refine ⟨_, rfl, .inl ⟨rfl, _, SqL.of hpr2⟩, _, rfl, _, rfl, _, rfl, by show 3 ≤ sizeLine; decide, fun t ht => ?_⟩
        have n2 : pr ≠ t := ne_of_none hpr2 ht
        have n3 : l1 ≠ t := ne_of_none hl2 ht
        refine ⟨pr, bs.map V.ref, _, rfl, rfl, by rw [upd_ne n2]; exact hpr2, ?_, _, _, bs ++ [t], rfl, same_set (sm2.tr ht) hpr, ?_, ?_, ?_, ?_⟩
        · rw [List.length_map, tb2.length, List.length_append, pairsN_len, List.length_take]
          have : (colD size n (kvs.take j)).length ≤ 1000 := by simp [colD]; omega
          have h5 : min i names.length * kvs.length ≤ 100 * 100 := Nat.mul_le_mul (by omega) (by omega)
          have : 10000 + 1000 < sizeLine := by decide
          omega
        · rw [upd_ne n1.symm, upd_ne n3]
          exact hl2
        · rw [upd_same, List.map_append]
          rfl
        · have e2 : colD size n (kvs.take (j + 1)) = colD size n (kvs.take j) ++ [[RD.way size n k' sh, n, k']] := by
            unfold colD
            rw [take_snoc hkv, List.map_append]
            rfl
          rw [e2, ← List.append_assoc]
          refine ((tb2.fresh ht).upd fun xs e => by rw [upd_ne n2, hpr2] at e; cases e).snoc ?_
          rw [upd_ne n2.symm, upd_same]
          rfl
        · intro b hb
          rcases List.mem_append.mp hb with hb | hb
          · exact hf2 b hb
          · rw [List.mem_singleton.mp hb]
            exact sm2.free ht
      · rintro σ H2 ⟨a5, a6, bs, rfl, sm2, hl2, hpr2, tb2, hf2⟩
        rw [List.length_map, List.length_map, List.take_length] at tb2
        exact ⟨_, _, _, bs, rfl, sm2, hpr2, by rw [pairsN_snoc hn]; exact tb2, hf2⟩
    rintro σ H1 ⟨a4, a5, a6, bs, rfl, sm1, hpr1, tb1, hf1⟩
    rw [List.length_map, List.take_length] at tb1
    -- deal = {}, many = {}
    intro de hde my hmy
    have ndm : de ≠ my := ne_of_none upd_same hmy
    have sd : Same H1 (upd (upd H1 de (.dK [])) my (.dK [])) := (Same.upd hde).tr hmy
    have hden : H de = none := sm1.free hde
    have hmyn : H my = none := (sm1.tr hde).free hmy
    have tb3 := tb1.same sd
    refine ⟨_, rfl, pr, bs, dataOf (upd (upd H1 de (.dK [])) my (.dK [])), rfl, SqL.of (sd _ _ hpr1), fun b hb => ?_, by rw [tb3.length, pairsN_len, Nat.mul_comm]; exact few_mul ⟨hk1, hn1⟩, fun p1 bs1 hp1 hpm hsrt => ⟨p1, rfl, ⟨_, SqL.of upd_same⟩, ?_⟩⟩
    · obtain ⟨g1, g2⟩ := tb3.mem b hb
      refine ⟨fun e => ?_, g1⟩
      rw [e] at g2
      obtain ⟨p, _, n, _, hx⟩ := pairsD_mem.mp (pairsN_mem.mp g2)
      cases hx
    obtain ⟨ds, hds⟩ : ∃ ds, bs1.map (dataOf (upd (upd H1 de (.dK [])) my (.dK []))) = ds := ⟨_, rfl⟩
    rw [hds] at hsrt
    have hpm2 : ds.Perm (pairsD size kvs names) := by
      have := hpm.map (dataOf (upd (upd H1 de (.dK [])) my (.dK [])))
      rw [tb3.map, hds] at this
      exact this.trans (pairsN_perm hok.1 nn)
    have tb4 : Tups (upd (upd H1 de (.dK [])) my (.dK [])) bs1 ds := hds ▸ Tups.of fun b hb => (tb3.mem b (hpm.mem_iff.mp hb)).1
    have s3 : Same H (upd (upd (upd H1 de (.dK [])) my (.dK [])) p1 (.lst (bs1.map V.ref))) := (sm1.trans sd).tr hp1
    have n1d : de ≠ p1 := ne_of_none ((Same.upd hmy) _ _ upd_same) hp1
    have n1m : my ≠ p1 := ne_of_none upd_same hp1
    have hlen : ∀ {i : Nat} {d0 : List Int}, ds[i]? = some d0 → ∃ q ∈ kvs, ∃ n ∈ names, d0 = [RD.way size n q.1 q.2, n, q.1] := fun h => pairsD_mem.mp (hpm2.mem_iff.mp (List.mem_of_getElem? h))
    have hdl : ds.length ≤ 10000 := by
      rw [hpm2.length_eq, pairsD_len]
      exact Nat.le_trans (Nat.le_of_lt (few_mul ⟨hk1, hn1⟩)) (by decide)
    refine for_list (xs := bs1.map V.ref) (fun i σ H' => ∃ (a4 a5 a6 : Option V) (ms : List (Key × V)), σ = [some (.ref pl), some (.ref d), some (.ref l), some (.ref pr), a4, a5, a6, some (.ref de), some (.ref my)] ∧ Same H H' ∧ H' p1 = some (.lst (bs1.map V.ref)) ∧ Tups H' bs1 ds ∧
        H' my = some (.dK ms) ∧ ms.length ≤ i ∧ (∀ k, (valV ms (Sum.inl k : Key)).getD (.int 0) = V.int (capK each kvs k - (RD.greedy ((ds.take i).map toPr) (capK each kvs)).r k)) ∧ H' de = some (.dK (dealD (RD.greedy ((ds.take i).map toPr) (capK each kvs)).d)) ∧ (RD.greedy ((ds.take i).map toPr) (capK each kvs)).d.length ≤ i)
      ⟨_, _, _, [], rfl, s3, upd_same, tb4.fresh hp1, by rw [upd_ne n1m, upd_same], Nat.zero_le _, fun k => ?_, by rw [List.take_zero, upd_ne n1d, upd_ne ndm, upd_same]; rfl, Nat.le_of_eq (by rw [List.take_zero]; rfl)⟩ (fun i σ H' _ ⟨_, _, _, _, _, _, h, _⟩ => SqL.of h) ?_ ?_
    · rw [List.take_zero]
      show V.int 0 = V.int (capK each kvs k - capK each kvs k)
      rw [Int.sub_self]
    · rintro i x σ H4 hi ⟨a4, a5, a6, ms, rfl, sm4, hp4, tb4, hmy4, hml, hmv, hde4, hgl⟩
      obtain ⟨b, hb, rfl⟩ := ref_at hi
      obtain ⟨d0, hd0, hbt⟩ := tb4.at hb
      obtain ⟨⟨k, sh⟩, hq0, n, hn, rfl⟩ := hlen hd0
      have hkk : k ∈ kvs.map (·.1) := List.mem_map_of_mem (f := (·.1)) hq0
      have hstep : RD.greedy ((ds.take (i + 1)).map toPr) (capK each kvs) = (RD.greedy ((ds.take i).map toPr) (capK each kvs)).step (RD.way size n k sh, n, k) := by
        rw [take_snoc hd0, List.map_append]
        exact RD.greedy_snoc _ _ _
      rw [hstep]
      obtain ⟨g, hgr⟩ : ∃ g, RD.greedy ((ds.take i).map toPr) (capK each kvs) = g := ⟨_, rfl⟩
      rw [hgr] at hmv hde4 hgl ⊢
      have hil : i < ds.length := (List.getElem?_eq_some_iff.mp hd0).1
      have hsh := (hok.2 _ hq0).2.2
      dsimp only at hsh
      have hcap : capK each kvs k = each * (sh : Int) := by
        unfold capK
        rw [shareOf_mem hok.1 hq0]
      refine ⟨b, _, rfl, SqT.of hbt, rfl, _, _, rfl, _, _, rfl, _, _, rfl, rfl, ?_⟩
      refine ⟨_, rfl, _, rfl, de, _, rfl, DGet.k (k := Sum.inl n) hde4, _, rfl, ?_⟩
      rw [dealD_get, Option.isSome_map, look_has g.d g.r n]
      have hgg : RD.GS.has ⟨g.d, g.r⟩ n = g.has n := rfl
      rw [hgg]
      have stay : ¬ (g.has n = false ∧ 0 < g.r k) → g.step (RD.way size n k sh, n, k) = g := fun h => if_neg h
      cases hhas : g.has n with
      | true =>
        rw [stay (fun h => by rw [hhas] at h; cases h.1)]
        exact ⟨_, _, _, ms, rfl, sm4, hp4, tb4, hmy4, by omega, hmv, hde4, by omega⟩
      | false =>
        refine iteT ⟨_, rfl, my, rfl, .inl ⟨_, .inl hmy4⟩, _, rfl, _, DGet.k (k := Sum.inl k) hmy4, ?_⟩
        rw [hmv k]
        refine ⟨_, rfl, pl, _, 1, V.int each, rfl, rfl, sm4.tup hpl, rfl, _, rfl, _, rfl, d, _, rfl, hg sm4 hq0, _, _, rfl, rfl, .inr ⟨by omega, by omega⟩, _, _, rfl, rfl, _, rfl, ite2 (fun hc => ?_) (fun hc => ?_)⟩
        · have hc' : 0 < g.r k := by
            have := of_decide_eq_true hc
            rw [hcap] at this
            omega
          have hst : g.step (RD.way size n k sh, n, k) = ⟨g.d ++ [(n, k)], fun j => if j = k then g.r j - 1 else g.r j⟩ := if_pos ⟨hhas, hc'⟩
          have hlk : RD.look g.d n = none := by
            have := look_has g.d g.r n
            rw [hgg, hhas] at this
            cases e : RD.look g.d n with
            | none => rfl
            | some z => rw [e] at this; cases this
          refine ⟨_, rfl, _, rfl, _, rfl, de, _, rfl, DPut.k (k := Sum.inl n) hde4 ?_, ?_⟩
          · unfold dealD
            rw [List.length_map]
            exact big_size (by omega)
          rw [dealD_put hlk]
          have hmy5 : (upd H4 de (.dK (dealD (g.d ++ [(n, k)])))) my = some (.dK ms) := by rw [upd_ne ndm.symm]; exact hmy4
          refine ⟨_, rfl, my, rfl, .inl ⟨_, .inl hmy5⟩, _, rfl, _, DGet.k (k := Sum.inl k) hmy5, ?_⟩
          rw [hmv k]
          refine ⟨_, _, rfl, rfl, _, rfl, _, rfl, my, _, rfl, DPut.k (k := Sum.inl k) hmy5 (big_size (by omega)), ?_⟩
          rw [hst]
          refine ⟨_, _, _, _, rfl, same_set (same_set sm4 hden) hmyn, by rw [upd_ne n1m.symm, upd_ne n1d.symm]; exact hp4, ?_, upd_same, ?_, fun j => ?_, ?_, ?_⟩
          · exact (tb4.upd fun xs e => by rw [hde4] at e; cases e).upd fun xs e => by rw [hmy5] at e; cases e
          · exact Nat.le_trans (putK_len _ _ _) (by omega)
          · rw [valV_put]
            dsimp only
            by_cases z : j = k
            · subst z
              rw [if_pos rfl, if_pos rfl]
              show V.int _ = V.int _
              congr 1
              omega
            · rw [if_neg (fun e => z (Sum.inl.inj e)), if_neg z]
              exact hmv j
          · rw [upd_ne ndm, upd_same]
          · rw [List.length_append]
            simp
            omega
        · have hc' : ¬ 0 < g.r k := fun z => hc (decide_eq_true (by rw [hcap]; omega))
          rw [stay (fun h => hc' h.2)]
          exact ⟨_, _, _, ms, rfl, sm4, hp4, tb4, hmy4, by omega, hmv, hde4, by omega⟩
    · rintro σ H4 ⟨a4, a5, a6, ms, rfl, sm4, hp4, tb4, hmy4, hml, hmv, hde4, hgl⟩
      have hbl : (bs1.map V.ref).length = ds.length := by rw [List.length_map, tb4.length]
      rw [hbl, List.take_length] at hde4
      have S := deal_stab (each := each) he hok.1 nn hpm2 hsrt
      obtain ⟨g, hgr⟩ : ∃ g, RD.greedy (ds.map toPr) (capK each kvs) = g := ⟨_, rfl⟩
      rw [hgr] at hde4 S
      refine ⟨_, rfl, l, names, rfl, sm4.seq hl, by omega, fun l9 ns hl9 hpn hsn => ⟨l9, rfl, ⟨_, SqL.of upd_same⟩, fun pz hpz => ?_⟩⟩
      have s5 : Same H4 (upd H4 l9 (.lst (ns.map V.int))) := Same.upd hl9
      have n9 : l9 ≠ pz := ne_of_none upd_same hpz
      have hpzn : H pz = none := (sm4.trans s5).free hpz
      refine comp_list (xs := ns.map V.int) (fun i σ H' => ∃ v bs, σ = [v, some (.ref de)] ∧ Same H H' ∧ H' de = some (.dK (dealD g.d)) ∧ H' l9 = some (.lst (ns.map V.int)) ∧ H' pz = some (.lst (bs.map V.ref)) ∧ Rows H' bs ((ns.take i).map fun n => (n, RD.look g.d n)) ∧ ∀ b ∈ bs, H b = none)
        ⟨none, [], rfl, (sm4.trans s5).tr hpz, Same.upd hpz _ _ (s5 _ _ hde4), Same.upd hpz _ _ upd_same, upd_same, .nil, fun b hb => by cases hb⟩ (fun i σ H' _ ⟨_, _, _, _, _, h, _⟩ => SqL.of h) ?_ ?_
      · rintro i x σ H5 hi ⟨v, bs, rfl, sm5, hde5, hl5, hpz5, rw5, hf5⟩
        obtain ⟨n, hn, hin, hil, rfl⟩ := int_at hi
        refine ⟨_, rfl, _, rfl, de, rfl, .inl ⟨_, .inl hde5⟩, _, rfl, _, DGet.k (k := Sum.inl n) hde5, by show 2 ≤ sizeLine; decide, fun t ht => ?_⟩
        rw [optV_look]
        have npt : pz ≠ t := ne_of_none hpz5 ht
        have ndt : de ≠ t := ne_of_none hde5 ht
        have nlt : l9 ≠ t := ne_of_none hl5 ht
        refine ⟨bs.map V.ref, by rw [upd_ne npt]; exact hpz5, ?_, _, bs ++ [t], rfl, same_set (sm5.tr ht) hpzn, ?_, ?_, ?_, ?_, ?_⟩
        · rw [List.length_map, rw5.length, List.length_map, List.length_take]
          have := hpn.length_eq
          exact small_1000 (by omega)
        · rw [upd_ne (fun z => by rw [z, hpz5] at hde5; cases hde5), upd_ne ndt]
          exact hde5
        · rw [upd_ne n9, upd_ne nlt]
          exact hl5
        · rw [upd_same, List.map_append]
          rfl
        · rw [take_snoc hn, List.map_append]
          refine ((rw5.fresh ht).upd fun xs e => by rw [upd_ne npt, hpz5] at e; cases e).snoc ?_
          rw [upd_ne npt.symm, upd_same]
        · intro b hb
          rcases List.mem_append.mp hb with hb | hb
          · exact hf5 b hb
          · rw [List.mem_singleton.mp hb]
            exact sm5.free ht
      · rintro σ H5 ⟨v, bs, rfl, sm5, hde5, hl5, hpz5, rw5, hf5⟩
        rw [List.length_map, List.take_length] at rw5
        exact q H5 pz bs ns (RD.look g.d) sm5 hpzn hpz5 hf5 hpn hsn rw5 S
end
end RK

set_option autoImplicit false
set_option maxRecDepth 100000
set_option linter.all false
set_option Elab.async false
set_option maxHeartbeats 8000000
namespace RK
open PySem
open L2 hiding pv pe_bltn pe_int pe_bl pe_non pe_str pe_lst pe_tup pe_op pe_ix pe_callB pe_callTy pe_call pe_cmp pe_cmpR pe_and pe_one pe_not pe_slice pe_dget pe_dget1 pe_dnewK pe_bm pt_cmp pt_cmpR pt_not pt_val pw_or pw_or1 pw_and pw_and1 pa_nil pa_cons pa_int pa_nm pa_bin pa_sub pa_call pa_tup pss_cons pss_one pss_nil ps_set ps_if ps_for ps_ret ps_expr ps_dput pg_name pg_tup pgs_nil pgs_cons pi_list pi_tup pi_range1 po_none po_some pc_isN pe_comp ps_setC pf_nil pf_one pc_din pc_dnotin pc_notN PE PT PW PA PS PSs PC PG PGs PI PO PF
open R hiding ok
section
variable {P : Program} {w : World} {K : PySem.W.Frag} {mg : Str → Option Value} {base : Heap} {f : Addr} {fd : FuncData}
def spAreRows (K : PySem.W.Frag) : Sp := fun vs H Q _ => ∃ (p l : Addr) (bs : List Addr) (names ns : List Int) (μ : Int → Option Int), vs = [.ref p, .ref l] ∧ H p = some (.lst (bs.map V.ref)) ∧ Rows H bs (ns.map fun n => (n, μ n)) ∧ SqL K H l (names.map V.int) ∧ ns.Perm names ∧ ns.Pairwise (· ≤ ·) ∧ names.length ≤ 63 ∧
  ∀ H', Same H H' → Q (.bl true) H'
theorem scAreRows : FnScope ["_law_found", "_law_names", "_law_row"] ["_law_found", "_law_names"] (defScope sAreRows) := ⟨rfl, rfl, rfl, by decide +kernel, rfl, by decide +kernel, by decide +kernel⟩
def cmpL (e : Expr) : Expr := match e with
  | .Compare a _ _ _ => a
  | e => e
theorem csAreRows : CScope (defScope sAreRows) ["_law_found", "_law_names", "_law_row"] ["_law_row"] [none] (compScope (cmpL (retE sAreRows 2))) :=
  ⟨rfl, by decide +kernel, by decide +kernel, rfl, by decide +kernel, by decide +kernel, fun j i hj h => by
    match j, hj, h with
    | 0, _, h => cases h⟩
theorem ok_arerows (F : Fun K "_law_are_rows" "_law_are_rows" sAreRows f fd) (B : Blt mg) (h1 : Has P w K mg base "_law_whole" ["_law_found"] sWhole 1 spWhole) : FnOk P w K mg base CX0 2 f fd ["_law_found", "_law_names"] (spAreRows K) := by
  obtain ⟨fw, dfw, Aw, Gw⟩ := h1
  refine R.ok F scAreRows (fun vs H Q E h => ?_) (fun cdv A outer s H vs Q E hr h => ?_)
  · obtain ⟨_, _, _, _, _, _, rfl, _⟩ := h
    rfl
  · obtain ⟨p, l, bs, names, ns, μ, rfl, hp, rs, hl, hpm, hsrt, hnl, q⟩ := h
    have hu := hu_of hr
    have hu60 := Nat.lt_of_le_of_lt (Nat.add_le_add_left (by decide : 60 ≤ 64) _) hr.units
    refine ⟨_, (pss_cons (ps_if ((pw_or (pt_not (pt_val (pe_callB call_isinst (by rfl) B.isinstance (by rfl) (pa_nm (pv 0) (pa_nm (pe_bltn (v := .ty "list") (by rfl) B.list (by rfl) rfl) pa_nil))))) (pw_or1 (pt_cmpR op_ne (pe_callB call_len_seq (by rfl) B.len (by rfl) (pa_nm (pv 0) pa_nil)) (pe_callB call_len_seq (by rfl) B.len (by rfl) (pa_nm (pv 1) pa_nil)) (nomark _)))).pt) pss_never pss_nil) <|
      pss_cons (ps_for PassesOwn.never rfl (pi_list (pv 0)) (pg_name (i := 2) scAreRows.nd rfl (Or.inl rfl)) (pss_cons (ps_if ((pw_or (pt_not (pt_val (pe_callB call_isinst (by rfl) B.isinstance (by rfl) (pa_nm (pv 2) (pa_nm (pe_bltn (v := .ty "tuple") (by rfl) B.tuple (by rfl) rfl) pa_nil))))) (pw_or (pt_cmpR op_ne (pe_callB call_len_seq (by rfl) B.len (by rfl) (pa_nm (pv 2) pa_nil)) (pe_int) (nomark _)) (pw_or1 (pt_not (pt_val (pe_call Gw hr (by rfl) Aw.mgf Aw.F.kp Aw.b .nil pass0 (pa_sub (pe_ix ix_tup (pv 2) (pe_int) (fun _ _ => rfl)) pa_nil))))))).pt) pss_never pss_nil) <|
        pss_one (ps_if ((pw_and (pt_cmp (pc_notN (pe_ix ix_tup (pv 2) (pe_int) (fun _ _ => rfl)))) (pw_and1 (pt_not (pt_val (pe_call Gw hr (by rfl) Aw.mgf Aw.F.kp Aw.b .nil pass0 (pa_sub (pe_ix ix_tup (pv 2) (pe_int) (fun _ _ => rfl)) pa_nil)))))).pt) pss_never pss_nil))) <|
      pss_one (ps_ret (pe_cmpR (op_eqD hu60) (pe_comp csAreRows rfl rfl rfl (pi_list (pv 0)) (fun cl s₀ H₀ fp => pg_name (i := 0) csAreRows.nd rfl (Or.inl rfl) (Or.inr rfl)) (fun cl s₀ H₀ fp => pf_nil) (fun cl s₀ H₀ fp => pe_ix (r := rIxT K) ix_tup (pv 0) (pe_int) (fun _ _ => rfl))) (pe_callB call_sortedI (by rfl) B.sorted (by rfl) (pa_nm (pv 1) pa_nil)) (nomark _)))), ?_⟩
    have hlb : bs.length = names.length := by
      rw [rs.length, List.length_map, hpm.length_eq]
    refine ⟨_, rfl, _, _, _, _, rfl, .lst hp, kit_eq _ _, _, rfl, iteF ?_⟩
    refine ⟨_, rfl, p, _, rfl, .inl (SqL.of hp), _, rfl, l, _, rfl, .inl hl, rfl, _, rfl, iteNS (by rw [List.length_map, List.length_map, hlb]) ?_⟩
    refine ⟨_, rfl, p, rfl, ⟨_, SqL.of hp⟩, ?_⟩
    refine for_list (xs := bs.map V.ref) (fun i σ H' => ∃ a2, σ = [some (.ref p), some (.ref l), a2] ∧ H' = H) ⟨_, rfl, rfl⟩ (fun i σ H' _ ⟨_, _, e⟩ => by rw [e]; exact SqL.of hp) ?_ ?_
    · rintro i x σ H' hi ⟨a2, rfl, rfl⟩
      obtain ⟨b, hb, rfl⟩ := ref_at hi
      obtain ⟨r, hr0, hbt⟩ := rs.at hb
      refine ⟨_, rfl, _, _, _, _, rfl, .tup hbt, kit_eq _ _, _, rfl, iteF ?_⟩
      refine ⟨_, rfl, b, _, rfl, .inr (SqT.of hbt), rfl, _, rfl, iteNS rfl ?_⟩
      refine ⟨_, rfl, b, _, 0, V.int r.1, rfl, rfl, SqT.of hbt, rfl, _, rfl, _, rfl, iteF ?_⟩
      refine ⟨_, rfl, b, _, 1, optV r.2, rfl, rfl, SqT.of hbt, rfl, _, rfl, ?_⟩
      cases hr2 : r.2 with
      | none => exact ⟨_, rfl, rfl⟩
      | some k =>
        rw [hr2] at hbt
        exact ⟨_, rfl, b, _, 1, V.int k, rfl, rfl, SqT.of hbt, rfl, _, rfl, _, rfl, _, rfl, rfl⟩
    · rintro σ H' ⟨a2, rfl, rfl⟩
      refine ⟨_, rfl, p, rfl, ⟨_, SqL.of hp⟩, fun pz hpz => ?_⟩
      have npp : p ≠ pz := ne_of_none hp hpz
      refine comp_list (xs := bs.map V.ref) (fun i σ H1 => ∃ v, σ = [v] ∧ H1 = upd H' pz (.lst ((ns.take i).map V.int))) ⟨none, rfl, rfl⟩ (fun i σ H1 _ ⟨_, _, e⟩ => by rw [e]; exact SqL.of (by rw [upd_ne npp]; exact hp)) ?_ ?_
      · rintro i x σ H1 hi ⟨v, rfl, rfl⟩
        obtain ⟨b, hb, rfl⟩ := ref_at hi
        obtain ⟨r, hr0, hbt⟩ := rs.at hb
        rw [List.getElem?_map] at hr0
        obtain ⟨n, hn, rfl⟩ : ∃ n, ns[i]? = some n ∧ (n, μ n) = r := by
          cases e : ns[i]? with
          | none => rw [e] at hr0; cases hr0
          | some n => rw [e] at hr0; exact ⟨n, rfl, Option.some.inj hr0⟩
        have nb : b ≠ pz := ne_of_none hbt hpz
        have hbt' : (upd H' pz (.lst ((ns.take i).map V.int))) b = some (.tup [V.int n, optV (μ n)]) := by rw [upd_ne nb]; exact hbt
        refine ⟨_, rfl, b, _, 0, V.int n, rfl, rfl, SqT.of hbt', rfl, _, upd_same, ?_, _, rfl, ?_⟩
        · rw [List.length_map, List.length_take]
          have := hpm.length_eq
          exact small_1000 (by omega)
        · rw [upd_upd, take_snoc hn, List.map_append]
          rfl
      · rintro σ H1 ⟨v, rfl, rfl⟩
        have e : (bs.map V.ref).length = ns.length := by rw [List.length_map, hlb, hpm.length_eq]
        rw [e, List.take_length]
        have s1 : Same H' (upd H' pz (.lst (ns.map V.int))) := Same.upd hpz
        refine ⟨_, rfl, l, names, rfl, s1.seq hl, by omega, fun l2 ns2 hl2 hpm2 hsrt2 => ?_⟩
        have e2 : ns2 = ns := (hpm2.trans hpm.symm).eq_of_pairwise (fun a b _ _ h1 h2 => by omega) hsrt2 hsrt
        subst e2
        refine ⟨_, _, .lst (SqL.of (Same.upd hl2 _ _ upd_same)) (ints_dats ns2), .lst (SqL.of upd_same) (ints_dats ns2), ints_lay _, ints_lay _, ints_depth _, ?_⟩
        rw [ints_eqv]
        exact q _ (s1.tr hl2)
end
end RK

set_option autoImplicit false
set_option maxRecDepth 100000
set_option linter.all false
set_option Elab.async false
set_option maxHeartbeats 8000000
namespace RK
open PySem
open L2 hiding pv pe_bltn pe_int pe_bl pe_non pe_str pe_lst pe_tup pe_op pe_ix pe_callB pe_callTy pe_call pe_cmp pe_cmpR pe_and pe_one pe_not pe_slice pe_dget pe_dget1 pe_dnewK pe_bm pt_cmp pt_cmpR pt_not pt_val pw_or pw_or1 pw_and pw_and1 pa_nil pa_cons pa_int pa_nm pa_bin pa_sub pa_call pa_tup pss_cons pss_one pss_nil ps_set ps_if ps_for ps_ret ps_expr ps_dput pg_name pg_tup pgs_nil pgs_cons pi_list pi_tup pi_range1 po_none po_some pc_isN pe_comp ps_setC pf_nil pf_one pc_din pc_dnotin pc_notN PE PT PW PA PS PSs PC PG PGs PI PO PF
open R hiding ok
section
variable {P : Program} {w : World} {K : PySem.W.Frag} {mg : Str → Option Value} {base : Heap} {f : Addr} {fd : FuncData}
def oldL (rs : List Row) (n : Int) : List V := (rs.filter fun r => decide (r.1 = n)).map fun r => optV r.2
theorem oldL_snoc {rs : List Row} {n : Int} {i : Nat} {r : Row} (h : rs[i]? = some r) : oldL (rs.take (i + 1)) n = oldL (rs.take i) n ++ (if decide (r.1 = n) = true then [optV r.2] else []) := by
  unfold oldL
  rw [take_snoc h, List.filter_append, List.map_append]
  congr 1
  by_cases e : r.1 = n
  · simp [e]
  · simp [e]
theorem oldL_len (rs : List Row) (n : Int) : (oldL rs n).length ≤ rs.length := by
  unfold oldL
  rw [List.length_map]
  exact List.length_filter_le _ _
theorem oldL_head (n : Int) : ∀ rs : List Row, (oldL rs n ++ [V.non])[0]? = some (optV (oldK rs n))
  | [] => rfl
  | r :: q => by
    unfold oldL oldK
    by_cases e : r.1 = n
    · simp [e]
    · have := oldL_head n q
      unfold oldL oldK at this
      simp [e] at this ⊢
      exact this
theorem scOwn : FnScope ["_law_before", "_law_after", "_law_found", "_law_name", "_law_keeper", "_law_old"] ["_law_before", "_law_after"] (defScope sOwnMoves) := ⟨rfl, rfl, rfl, by decide +kernel, rfl, by decide +kernel, by decide +kernel⟩
theorem csOwn : CScope (defScope sOwnMoves) ["_law_before", "_law_after", "_law_found", "_law_name", "_law_keeper", "_law_old"] ["_law_row", "_law_name"] [none, some 3] (compScope (binL (asgE (forBody ((defBody sOwnMoves).getD 1 (.Pass ⟨0, 0, 0, 0⟩))) 0))) :=
  ⟨rfl, by decide +kernel, by decide +kernel, rfl, by decide +kernel, by decide +kernel, fun j i hj h => by
    match j, hj, h with
    | 0, _, h => cases h
    | 1, _, h => cases h; exact ⟨_, rfl, rfl, by decide +kernel⟩⟩
theorem ok_ownmoves (F : Fun K "_law_own_moves" "_law_own_moves" sOwnMoves f fd) (B : Blt mg) : FnOk P w K mg base CX0 1 f fd ["_law_before", "_law_after"] (spMoves K) := by
  refine R.ok F scOwn (fun vs H Q E h => ?_) (fun cdv A outer s H vs Q E hr h => ?_)
  · obtain ⟨_, _, _, _, _, _, rfl, _⟩ := h
    rfl
  · obtain ⟨a, b, bs, cs, rs, qs, rfl, ha, hrs, hb, hqs, nd, hl, hl2, q⟩ := h
    have hu := hu_of hr
    refine ⟨_, (pss_cons (ps_set (i := 2) scOwn.nd rfl (Or.inl rfl) (pe_lst pa_nil)) <|
      pss_cons (ps_for PassesOwn.never rfl (pi_list (pv 1)) (pg_tup rfl (pgs_cons (pg_name (i := 3) scOwn.nd rfl (Or.inr rfl)) (pgs_cons (pg_name (i := 4) scOwn.nd rfl (Or.inl rfl)) pgs_nil))) (pss_cons (ps_set (i := 5) scOwn.nd rfl (Or.inl rfl) (pe_op op_cat (pe_comp csOwn rfl rfl rfl (pi_list (pv 0)) (fun cl s₀ H₀ fp => pg_name (i := 0) csOwn.nd rfl (Or.inl rfl) (Or.inr rfl)) (fun cl s₀ H₀ fp => pf_one (pt_cmpR op_eq (pe_ix (r := rIxT K) ix_tup (pv 0) (pe_int) (fun _ _ => rfl)) (pv 1) (nomark _))) (fun cl s₀ H₀ fp => pe_ix (r := rIxT K) ix_tup (pv 0) (pe_int) (fun _ _ => rfl))) (pe_lst (pa_cst (pe_non) pa_nil)))) <|
        pss_one (ps_if (pt_cmpR op_ne (pe_ix ix_list (pv 5) (pe_int) (fun _ _ => rfl)) (pv 4) (nomark _)) (pss_one (ps_expr (pe_bm PySem.F.plainAttrs_list PySem.F.slot_list_append PySem.F.type_list_append mt_append (pv 2) (pa_tup (pe_tup (pa_nm (pv 3) (pa_sub (pe_ix ix_list (pv 5) (pe_int) (fun _ _ => rfl)) (pa_nm (pv 4) pa_nil)))) pa_nil)))) pss_nil))) <|
      pss_one (ps_ret (pv 2))), ?_⟩
    refine ⟨Nat.zero_le _, fun z hz => ?_⟩
    have s0 : Same H (upd H z (.lst [])) := Same.upd hz
    refine ⟨_, rfl, b, rfl, ⟨_, s0.seq hb⟩, ?_⟩
    refine for_list (xs := cs.map V.ref) (fun i σ H' => ∃ a3 a4 a5 ts, σ = [some (.ref a), some (.ref b), some (.ref z), a3, a4, a5] ∧ Same H H' ∧ H' z = some (.lst (ts.map V.ref)) ∧ (∀ t ∈ ts, H t = none) ∧ Movs H' ts (movK rs (qs.take i)))
      ⟨none, none, none, [], rfl, s0, upd_same, (fun t ht => (nomatch ht)), .nil⟩ (fun i σ H' _ ⟨_, _, _, _, _, sm, _⟩ => sm.seq hb) ?_ ?_
    · rintro i x σ H1 hi ⟨a3, a4, a5, ts, rfl, sm, hz1, hts, ms⟩
      obtain ⟨c, hc, rfl⟩ := ref_at hi
      obtain ⟨r, hr0, hct⟩ := (hqs.same sm).at hc
      refine ⟨c, _, rfl, SqT.of hct, rfl, _, _, rfl, _, _, rfl, rfl, ?_⟩
      refine ⟨_, rfl, a, rfl, ⟨_, sm.seq ha⟩, fun y hy => ?_⟩
      have nzy : z ≠ y := ne_of_none hz1 hy
      refine comp_list (xs := bs.map V.ref) (fun j σ H' => ∃ v0, σ = [v0, some (.int r.1)] ∧ H' = upd H1 y (.lst (oldL (rs.take j) r.1)))
        ⟨none, rfl, rfl⟩ (fun j σ H' _ ⟨_, _, e⟩ => by rw [e]; exact (Same.upd hy).seq (sm.seq ha)) ?_ ?_
      · rintro j x σ H' hj ⟨v0, rfl, rfl⟩
        obtain ⟨e, he, rfl⟩ := ref_at hj
        obtain ⟨u, hu0, het⟩ := (hrs.same sm).at he
        have ney : e ≠ y := ne_of_none het hy
        have het' : (upd H1 y (.lst (oldL (rs.take j) r.1))) e = some (.tup [V.int u.1, optV u.2]) := by rw [upd_ne ney]; exact het
        refine ⟨_, rfl, e, _, 0, V.int u.1, rfl, rfl, SqT.of het', rfl, _, rfl, rfl, _, rfl, ?_⟩
        rw [oldL_snoc hu0, dec_int2]
        refine ite2 (fun hc => ?_) (fun hc => ?_)
        · rw [if_pos hc]
          refine ⟨_, rfl, e, _, 1, optV u.2, rfl, rfl, SqT.of het', rfl, _, upd_same, ?_, _, rfl, ?_⟩
          · have h1 := oldL_len (rs.take j) r.1
            rw [List.length_take] at h1
            exact small_1000 (by omega)
          · rw [upd_upd]
        · rw [if_neg hc, List.append_nil]
          exact ⟨_, rfl, rfl⟩
      · rintro σ H' ⟨v0, rfl, rfl⟩
        have e : (bs.map V.ref).length = rs.length := by rw [List.length_map, hrs.length]
        rw [e, List.take_length]
        refine ⟨by show 1 ≤ sizeLine; decide, fun y2 hy2 => ?_⟩
        have nyy : y ≠ y2 := ne_of_none upd_same hy2
        refine ⟨y, y2, _, _, rfl, rfl, by rw [upd_ne nyy, upd_same], upd_same, ?_, fun y3 hy3 => ?_⟩
        · have h1 := oldL_len rs r.1
          have : rs.length + 1 ≤ sizeLine := small_1000 hl2
          show (oldL rs r.1).length + 1 ≤ sizeLine
          omega
        have s3 : Same H1 (upd (upd (upd H1 y (.lst (oldL rs r.1))) y2 (.lst [V.non])) y3 (.lst (oldL rs r.1 ++ [V.non]))) := ((Same.upd hy).tr hy2).tr hy3
        refine ⟨_, rfl, y3, _, 0, optV (oldK rs r.1), rfl, rfl, SqL.of upd_same, ?_, _, rfl, opt_scal2 _ _, _, rfl, ?_⟩
        · exact atI_nat (oldL_head r.1 rs)
        rw [opt_dec2, movK_snoc hr0]
        refine ite2 (fun hc => ?_) (fun hc => ?_)
        · rw [if_pos hc]
          refine ⟨_, rfl, .inl ⟨rfl, _, SqL.of (s3 _ _ hz1)⟩, _, rfl, _, rfl, y3, _, 0, optV (oldK rs r.1), rfl, rfl, SqL.of upd_same, atI_nat (oldL_head r.1 rs), _, rfl, by show 3 ≤ sizeLine; decide, fun t ht => ?_⟩
          have s4 := s3.tr (o := .tup [V.int r.1, optV (oldK rs r.1), optV r.2]) ht
          have nzt : z ≠ t := ne_of_none (s3 _ _ hz1) ht
          refine ⟨z, _, _, rfl, rfl, s4 _ _ hz1, ?_, _, _, _, ts ++ [t], rfl, same_set (sm.trans s4) hz, ?_, ?_, ?_⟩
          · rw [List.length_map, ms.length]
            have h1 := movK_len rs (qs.take i)
            rw [List.length_take] at h1
            exact small_1000 (by omega)
          · rw [upd_same, List.map_append]
            rfl
          · intro u hu'
            rcases List.mem_append.mp hu' with hu' | hu'
            · exact hts u hu'
            · rw [List.mem_singleton.mp hu']
              exact sm.free (s3.free ht)
          · refine Movs.snoc ((ms.same s4).upd fun xs e => ?_) ?_
            · rw [s4 _ _ hz1] at e
              cases e
            · rw [upd_ne nzt.symm, upd_same]
        · rw [if_neg hc, List.append_nil]
          exact ⟨_, _, _, ts, rfl, sm.trans s3, s3 _ _ hz1, hts, ms.same s3⟩
    · rintro σ H1 ⟨a3, a4, a5, ts, rfl, sm, hz1, hts, ms⟩
      have e : (cs.map V.ref).length = qs.length := by rw [List.length_map, hqs.length]
      rw [e, List.take_length] at ms
      exact ⟨_, rfl, q z ts H1 sm hz hz1 hts ms⟩
end
end RK

set_option autoImplicit false
set_option maxRecDepth 100000
set_option linter.all false
set_option Elab.async false
set_option maxHeartbeats 8000000
namespace RK
open PySem
open L2 hiding pv pe_bltn pe_int pe_bl pe_non pe_str pe_lst pe_tup pe_op pe_ix pe_callB pe_callTy pe_call pe_cmp pe_cmpR pe_and pe_one pe_not pe_slice pe_dget pe_dget1 pe_dnewK pe_bm pt_cmp pt_cmpR pt_not pt_val pw_or pw_or1 pw_and pw_and1 pa_nil pa_cons pa_int pa_nm pa_bin pa_sub pa_call pa_tup pss_cons pss_one pss_nil ps_set ps_if ps_for ps_ret ps_expr ps_dput pg_name pg_tup pgs_nil pgs_cons pi_list pi_tup pi_range1 po_none po_some pc_isN pe_comp ps_setC pf_nil pf_one pc_din pc_dnotin pc_notN PE PT PW PA PS PSs PC PG PGs PI PO PF
open R hiding ok
section
variable {P : Program} {w : World} {K : PySem.W.Frag} {mg : Str → Option Value} {base : Heap} {f : Addr} {fd : FuncData}
def spAreMoves (K : PySem.W.Frag) : Sp := fun vs H Q _ => ∃ (p : Addr) (ts : List Addr) (ms : List Mov), vs = [.ref p] ∧ H p = some (.lst (ts.map V.ref)) ∧ Movs H ts ms ∧ ∀ H', Same H H' → Q (.bl true) H'
theorem scAreM : FnScope ["_law_found", "_law_move", "_law_keeper"] ["_law_found"] (defScope sAreMoves) := ⟨rfl, rfl, rfl, by decide +kernel, rfl, by decide +kernel, by decide +kernel⟩
theorem ok_aremoves (F : Fun K "_law_are_moves" "_law_are_moves" sAreMoves f fd) (B : Blt mg) (h1 : Has P w K mg base "_law_whole" ["_law_found"] sWhole 1 spWhole) : FnOk P w K mg base CX0 2 f fd ["_law_found"] (spAreMoves K) := by
  obtain ⟨fw, dfw, Aw, Gw⟩ := h1
  refine R.ok F scAreM (fun vs H Q E h => ?_) (fun cdv A outer s H vs Q E hr h => ?_)
  · obtain ⟨_, _, _, rfl, _⟩ := h
    rfl
  · obtain ⟨p, ts, ms, rfl, hp, hm, q⟩ := h
    refine ⟨_, (pss_cons (ps_if (pt_not (pt_val (pe_callB call_isinst (by rfl) B.isinstance (by rfl) (pa_nm (pv 0) (pa_nm (pe_bltn (v := .ty "list") (by rfl) B.list (by rfl) rfl) pa_nil))))) pss_never pss_nil) <|
      pss_cons (ps_for PassesOwn.never rfl (pi_list (pv 0)) (pg_name (i := 1) scAreM.nd rfl (Or.inl rfl)) (pss_cons (ps_if ((pw_or (pt_not (pt_val (pe_callB call_isinst (by rfl) B.isinstance (by rfl) (pa_nm (pv 1) (pa_nm (pe_bltn (v := .ty "tuple") (by rfl) B.tuple (by rfl) rfl) pa_nil))))) (pw_or (pt_cmpR op_ne (pe_callB call_len_seq (by rfl) B.len (by rfl) (pa_nm (pv 1) pa_nil)) (pe_int) (nomark _)) (pw_or1 (pt_not (pt_val (pe_call Gw hr (by rfl) Aw.mgf Aw.F.kp Aw.b .nil pass0 (pa_sub (pe_ix ix_tup (pv 1) (pe_int) (fun _ _ => rfl)) pa_nil))))))).pt) pss_never pss_nil) <|
        pss_one (ps_for PassesOwn.never rfl (pi_tup (pe_slice sl_tup (pv 1) (po_some (pe_int)) po_none)) (pg_name (i := 2) scAreM.nd rfl (Or.inl rfl)) (pss_one (ps_if ((pw_and (pt_cmp (pc_notN (pv 2))) (pw_and1 (pt_not (pt_val (pe_call Gw hr (by rfl) Aw.mgf Aw.F.kp Aw.b .nil pass0 (pa_nm (pv 2) pa_nil)))))).pt) pss_never pss_nil))))) <|
      pss_one (ps_ret (pe_bl))), ?_⟩
    refine ⟨_, rfl, _, _, _, _, rfl, .lst hp, kit_eq _ _, _, rfl, iteF ?_⟩
    refine ⟨_, rfl, p, rfl, ⟨_, SqL.of hp⟩, ?_⟩
    refine for_list (xs := ts.map V.ref) (fun i σ H' => ∃ a1 a2, σ = [some (.ref p), a1, a2] ∧ Same H H') ⟨_, _, rfl, fun _ _ e => e⟩ (fun i σ H' _ ⟨_, _, _, sm⟩ => SqL.of (sm _ _ hp)) ?_ ?_
    · rintro i x σ H1 hi ⟨a1, a2, rfl, sm⟩
      obtain ⟨b, hb, rfl⟩ := ref_at hi
      obtain ⟨m, hm0, hbt⟩ := (hm.same sm).at hb
      refine ⟨_, rfl, _, _, _, _, rfl, .tup hbt, kit_eq _ _, _, rfl, iteF ?_⟩
      refine ⟨_, rfl, b, _, rfl, .inr (SqT.of hbt), rfl, _, rfl, iteNS rfl ?_⟩
      refine ⟨_, rfl, b, _, 0, V.int m.1, rfl, rfl, SqT.of hbt, rfl, _, rfl, _, rfl, iteF ?_⟩
      refine ⟨_, rfl, 1, rfl, b, _, rfl, SqT.of hbt, (by show ¬ (HT.sIx 3 0 (some 1) = 0 ∧ HT.sIx 3 3 none = 3); decide), fun c hc => ⟨c, rfl, ⟨_, SqT.of upd_same⟩, ?_⟩⟩
      have s1 : Same H1 (upd H1 c (.tup (cutV [V.int m.1, optV m.2.1, optV m.2.2] (some 1) none))) := Same.upd hc
      refine for_tup (xs := [optV m.2.1, optV m.2.2]) (fun j σ H' => ∃ a2, σ = [some (.ref p), some (.ref b), a2] ∧ H' = upd H1 c (.tup (cutV [V.int m.1, optV m.2.1, optV m.2.2] (some 1) none))) ⟨_, rfl, rfl⟩ (fun j σ H' _ ⟨_, _, e⟩ => by rw [e]; exact SqT.of upd_same) ?_ ?_
      · rintro j x σ H' hj ⟨a2, rfl, rfl⟩
        have hx : ∃ o : Option Int, x = optV o := by
          match j, hj with
          | 0, hj => exact ⟨m.2.1, (Option.some.inj hj).symm⟩
          | 1, hj => exact ⟨m.2.2, (Option.some.inj hj).symm⟩
        obtain ⟨o, rfl⟩ := hx
        cases o with
        | none => exact ⟨_, rfl, _, rfl, _, rfl, rfl⟩
        | some k => exact ⟨_, rfl, _, rfl, _, rfl, _, rfl, _, rfl, _, rfl, rfl⟩
      · rintro σ H' ⟨a2, rfl, rfl⟩
        exact ⟨_, _, rfl, sm.trans s1⟩
    · rintro σ H1 ⟨a1, a2, rfl, sm⟩
      exact q H1 sm
end
end RK

set_option autoImplicit false
set_option maxRecDepth 100000
set_option linter.all false
set_option Elab.async false
set_option maxHeartbeats 8000000
namespace RK
open PySem
open L2 hiding pv pe_bltn pe_int pe_bl pe_non pe_str pe_lst pe_tup pe_op pe_ix pe_callB pe_callTy pe_call pe_cmp pe_cmpR pe_and pe_one pe_not pe_slice pe_dget pe_dget1 pe_dnewK pe_bm pt_cmp pt_cmpR pt_not pt_val pw_or pw_or1 pw_and pw_and1 pa_nil pa_cons pa_int pa_nm pa_bin pa_sub pa_call pa_tup pss_cons pss_one pss_nil ps_set ps_if ps_for ps_ret ps_expr ps_dput pg_name pg_tup pgs_nil pgs_cons pi_list pi_tup pi_range1 po_none po_some pc_isN pe_comp ps_setC pf_nil pf_one pc_din pc_dnotin pc_notN pe_dget2 pe_dpop1 pe_un pe_fld ps_fld pi_range2 pe_meth pe_meth0 pe_make pe_sortItems PE PT PW PA PS PSs PC PG PGs PI PO PF
open R hiding ok
section
variable {P : Program} {w : World} {K : PySem.W.Frag} {mg : Str → Option Value} {base : Heap} {f : Addr} {fd : FuncData}
def Tell.fine : Tell → Prop
  | .put n => okNum n
  | .come k s => okNum k ∧ s ≤ 40
  | _ => True
theorem if_by {t : TT} {u v r : TS} {D : Ends} {σ : St} {H : Hp} {b : Bool} (h : ∀ Q' : Bool → Hp → Prop, Q' b H → t σ H Q') (hq : if b = true then u { D with nx := r D } σ H else v { D with nx := r D } σ H) : tSeq (tIfS t u v) r D σ H := h _ hq
def spDeedOf : Sp := fun vs H Q _ => ∃ c k : Int, vs = [.int c, .int k] ∧ ∀ (t : Addr) (tt : Tell) (H' : Hp), Same H H' → H t = none → H' t = some (.tup tt.vs) → tt.fine → Q (.ref t) H'
theorem scDeedOf : FnScope ["_law_cell", "_law_k", "_law_way", "_law_large", "_law_keeper", "_law_small", "_law_name", "_law_share"] ["_law_cell", "_law_k"] (defScope sDeedOf) := ⟨rfl, rfl, rfl, by decide +kernel, rfl, by decide +kernel, by decide +kernel⟩
theorem ok_deedof (F : Fun K "_law_deed_of" "_law_deed_of" sDeedOf f fd) (B : Blt mg) : FnOk P w K mg base CX0 1 f fd ["_law_cell", "_law_k"] spDeedOf := by
  refine R.ok F scDeedOf (fun vs H Q E h => ?_) (fun cdv A outer s H vs Q E hr h => ?_)
  · obtain ⟨_, _, rfl, _⟩ := h
    rfl
  · obtain ⟨c, k, rfl, q⟩ := h
    have fin : ∀ (way kp : Int) (H1 : Hp), okNum kp → Same H H1 → R.tAny (cxOf CX0 P w K mg base ["_law_cell", "_law_k", "_law_way", "_law_large", "_law_keeper", "_law_small", "_law_name", "_law_share"] "_law_deed_of" (defScope sDeedOf) f cdv A outer s H E).nox (List.drop 4 (defBody sDeedOf)) { nx := fun _ H' => Q .non H', rt := Q } [some (.int c), some (.int k), some (.int way), some (.int 100000000000000000000), some (.int kp), none, none, none] H1 := by
      intro way kp H1 hkp sm
      refine ⟨_, (pss_cons (ps_set (i := 5) scDeedOf.nd rfl (Or.inl rfl) (pe_op op_mod (pe_op op_mod (pe_op op_mul (pv 0) (pe_int)) (pe_int)) (pe_int))) <|
      pss_cons (ps_set (i := 6) scDeedOf.nd rfl (Or.inl rfl) (pe_ix ix_list (pe_lst (pa_nm (pv 5) (pa_nm (pv 5) (pa_bin (pe_op op_add (pv 3) (pe_int)) pa_nil)))) (pe_op op_mod (pe_op op_mod (pe_op op_mul (pv 0) (pe_int)) (pe_int)) (pe_int)) (fun _ _ => rfl))) <|
      pss_cons (ps_if ((pw_or (pt_cmpR op_lt (pv 2) (pe_int) (nomark _)) (pw_or1 ((pw_and (pt_cmpR op_lt (pv 2) (pe_int) (nomark _)) (pw_and1 (pt_cmpR op_lt (pv 1) (pe_int) (nomark _)))).pt))).pt) (pss_cons (ps_set (i := 7) scDeedOf.nd rfl (Or.inl rfl) (pe_op op_sub (pe_op op_mod (pe_op op_mod (pe_op op_mul (pv 0) (pe_int)) (pe_int)) (pe_int)) (pe_int))) <|
        pss_cons (ps_if (pt_cmpR op_eq (pe_op op_mod (pe_op op_mod (pe_op op_mul (pv 0) (pe_int)) (pe_int)) (pe_int)) (pe_int) (nomark _)) (pss_one (ps_set (i := 7) scDeedOf.nd rfl (Or.inl rfl) (pe_ix ix_list (pe_lst (pa_int (pa_cons (pe_un un_neg (pe_int)) pa_nil))) (pe_op op_mod (pe_op op_mod (pe_op op_mul (pv 0) (pe_int)) (pe_int)) (pe_int)) (fun _ _ => rfl)))) pss_nil) <|
        pss_one (ps_ret (pe_tup (pa_cst (pe_str) (pa_nm (pv 4) (pa_nm (pv 7) pa_nil)))))) pss_nil) <|
      pss_cons (ps_if ((pw_or (pt_cmpR op_eq (pv 2) (pe_int) (nomark _)) (pw_or1 (pt_cmpR op_eq (pv 2) (pe_int) (nomark _)))).pt) (pss_one (ps_ret (pe_tup (pa_cst (pe_str) (pa_nm (pv 4) pa_nil))))) pss_nil) <|
      pss_cons (ps_if (pt_cmpR op_lt (pv 2) (pe_int) (nomark _)) (pss_one (ps_ret (pe_tup (pa_cst (pe_str) (pa_nm (pv 6) pa_nil))))) pss_nil) <|
      pss_cons (ps_if (pt_cmpR op_lt (pv 2) (pe_int) (nomark _)) (pss_one (ps_ret (pe_tup (pa_cst (pe_str) (pa_nm (pv 6) pa_nil))))) pss_nil) <|
      pss_one (ps_ret (pe_tup (pa_cst (pe_str) (pa_nm (pv 6) pa_nil))))), ?_⟩
      refine ⟨_, rfl, _, _, rfl, rfl, .inr ⟨by decide, by decide⟩, _, _, rfl, rfl, Int.ofNat_lt.mpr (by decide), _, _, rfl, rfl, Int.ofNat_lt.mpr (by decide), ?_⟩
      obtain ⟨sml, hsm⟩ : ∃ sml : Int, c * 48271 % 1051 % 8 = sml := ⟨_, rfl⟩
      have m1 := Int.emod_nonneg (c * 48271 % 1051) (show (8 : Int) ≠ 0 by decide)
      have m2 := Int.emod_lt_of_pos (c * 48271 % 1051) (show (0 : Int) < 8 by decide)
      dsimp only
      rw [hsm] at m1 m2 ⊢
      refine ⟨_, rfl, _, rfl, _, rfl, _, _, rfl, rfl, by show 3 ≤ sizeLine; decide, fun p hp => ⟨_, rfl, _, _, rfl, rfl, .inr ⟨by decide, by decide⟩, _, _, rfl, rfl, Int.ofNat_lt.mpr (by decide), _, _, rfl, rfl, Int.ofNat_lt.mpr (by decide), ?_⟩⟩
      obtain ⟨nm, hm, ha⟩ := pick_mod (vs := [sml, sml, 100000000000000000000 + 1]) (c := c * 48271 % 1063) (m := 3) rfl (by decide)
      have hnm : okNum nm := by
        rcases List.mem_cons.mp hm with rfl | hm
        · exact ⟨m1, Int.lt_trans m2 (by decide)⟩
        rcases List.mem_cons.mp hm with rfl | hm
        · exact ⟨m1, Int.lt_trans m2 (by decide)⟩
        rw [List.mem_singleton.mp hm]
        exact ⟨by decide, by decide⟩
      refine ⟨p, _, _, V.int nm, rfl, rfl, SqL.of upd_same, ha, ?_⟩
      have s1 := sm.tr (o := .lst [V.int sml, V.int sml, V.int (100000000000000000000 + 1)]) hp
      have leaf : ∀ (tt : Tell) (H2 : Hp) (t : Addr), Same H H2 → H2 t = none → tt.fine → Q (.ref t) (upd H2 t (.tup tt.vs)) := fun tt H2 t s2 ht hf => q t tt _ (s2.tr ht) (s2.free ht) upd_same hf
      dsimp only [gName]
      refine if_by (b := decide (way < 2 ∨ way < 4 ∧ k < 9)) (fun Q' hQ => ?_) (ite2 (fun _ => ?_) fun _ => ?_)
      · refine ⟨_, rfl, _, _, rfl, rfl, _, rfl, ite2 (fun h1 => ?_) fun h1 => ⟨_, rfl, _, _, rfl, rfl, _, rfl, ite2 (fun h2 => ⟨_, rfl, _, _, rfl, rfl, _, rfl, ?_⟩) fun h2 => ?_⟩⟩
        · rw [decide_eq_true (.inl (of_decide_eq_true h1))] at hQ
          exact hQ
        · have h1' : ¬ way < 2 := by simpa using h1
          have h2' : way < 4 := by simpa using h2
          rw [show decide (way < 2 ∨ way < 4 ∧ k < 9) = decide (k < 9) from decide_eq_decide.mpr (by omega)] at hQ
          exact hQ
        · have h1' : ¬ way < 2 := by simpa using h1
          have h2' : ¬ way < 4 := by simpa using h2
          rw [decide_eq_false (by omega)] at hQ
          exact hQ
      · refine ⟨_, rfl, _, _, rfl, rfl, .inr ⟨by decide, by decide⟩, _, _, rfl, rfl, Int.ofNat_lt.mpr (by decide), _, _, rfl, rfl, Int.ofNat_lt.mpr (by decide), _, _, rfl, rfl, ?_⟩
        have m3 := Int.emod_lt_of_pos (c * 48271 % 1069) (show (0 : Int) < 5 by decide)
        obtain ⟨sh, hsh⟩ : ∃ sh : Int, c * 48271 % 1069 % 5 - 1 = sh := ⟨_, rfl⟩
        dsimp only
        rw [hsh]
        refine ⟨_, rfl, _, _, rfl, rfl, .inr ⟨by decide, by decide⟩, _, _, rfl, rfl, Int.ofNat_lt.mpr (by decide), _, _, rfl, rfl, Int.ofNat_lt.mpr (by decide), ?_⟩
        refine ⟨rfl, _, rfl, ite2 (fun _ => ?_) (fun _ => ?_)⟩
        · refine ⟨_, rfl, by show 2 ≤ sizeLine; decide, fun p2 hp2 => ⟨_, rfl, _, _, rfl, rfl, .inr ⟨by decide, by decide⟩, _, _, rfl, rfl, Int.ofNat_lt.mpr (by decide), _, _, rfl, rfl, Int.ofNat_lt.mpr (by decide), ?_⟩⟩
          obtain ⟨s2, hm2, ha2⟩ := pick_mod (vs := [30, -100000000000000000000]) (c := c * 48271 % 1091) (m := 2) rfl (by decide)
          refine ⟨p2, _, _, V.int s2, rfl, rfl, SqL.of upd_same, ha2, ?_⟩
          refine ⟨_, rfl, _, rfl, by show 3 ≤ sizeLine; decide, fun t ht => leaf (.come kp s2) _ t (s1.tr hp2) ht ⟨hkp, ?_⟩⟩
          exact (by decide : ∀ v ∈ ([30, -100000000000000000000] : List Int), v ≤ 40) _ hm2
        · exact ⟨_, rfl, _, rfl, by show 3 ≤ sizeLine; decide, fun t ht => leaf (.come kp sh) _ t s1 ht ⟨hkp, by omega⟩⟩
      dsimp only [tNext]
      refine if_by (b := decide (way = 2 ∨ way = 3)) (fun Q' hQ => ?_) (ite2 (fun _ => ?_) fun _ => ?_)
      · refine ⟨_, rfl, rfl, _, rfl, ite2 (fun h1 => ?_) fun h1 => ⟨_, rfl, rfl, _, rfl, ?_⟩⟩
        · rw [decide_eq_true (.inl (by simpa using h1))] at hQ
          exact hQ
        · rw [show decide (way = 2 ∨ way = 3) = decide (V.int way = V.int 3) by simp at h1; simp [h1]] at hQ
          exact hQ
      · exact ⟨_, rfl, by show 2 ≤ sizeLine; decide, fun t ht => leaf (.leave kp) _ t s1 ht trivial⟩
      refine ⟨_, rfl, _, _, rfl, rfl, _, rfl, ite2 (fun _ => ?_) fun _ => ?_⟩
      · exact ⟨_, rfl, by show 2 ≤ sizeLine; decide, fun t ht => leaf (.put nm) _ t s1 ht hnm⟩
      refine ⟨_, rfl, _, _, rfl, rfl, _, rfl, ite2 (fun _ => ?_) fun _ => ?_⟩
      · exact ⟨_, rfl, by show 2 ≤ sizeLine; decide, fun t ht => leaf (.drop nm) _ t s1 ht trivial⟩
      · exact ⟨_, rfl, by show 2 ≤ sizeLine; decide, fun t ht => leaf (.wher nm) _ t s1 ht trivial⟩
    refine ⟨_, (pss_cons (ps_set (i := 2) scDeedOf.nd rfl (Or.inl rfl) (pe_op op_mod (pe_op op_mod (pe_op op_mul (pv 0) (pe_int)) (pe_int)) (pe_int))) <|
      pss_cons (ps_set (i := 3) scDeedOf.nd rfl (Or.inl rfl) (pe_int)) <|
      pss_cons (ps_set (i := 4) scDeedOf.nd rfl (Or.inl rfl) (pe_ix ix_list (pe_lst (pa_int (pa_int (pa_int (pa_int (pa_nm (pv 3) pa_nil)))))) (pe_op op_mod (pe_op op_mod (pe_op op_mul (pv 0) (pe_int)) (pe_int)) (pe_int)) (fun _ _ => rfl))) <|
      pss_cons (ps_if (pt_cmpR op_eq (pe_op op_mod (pe_op op_mod (pe_op op_mul (pv 0) (pe_int)) (pe_int)) (pe_int)) (pe_int) (nomark _)) (pss_one (ps_set (i := 4) scDeedOf.nd rfl (Or.inl rfl) (pe_op op_add (pe_int) (pe_op op_mod (pv 0) (pe_int))))) pss_nil) <|
      pss_any), ?_⟩
    refine ⟨_, rfl, _, _, rfl, rfl, .inr ⟨by decide, by decide⟩, _, _, rfl, rfl, Int.ofNat_lt.mpr (by decide), _, _, rfl, rfl, Int.ofNat_lt.mpr (by decide), ?_⟩
    refine ⟨_, rfl, by show 5 ≤ sizeLine; decide, fun p hp => ⟨_, rfl, _, _, rfl, rfl, .inr ⟨by decide, by decide⟩, _, _, rfl, rfl, Int.ofNat_lt.mpr (by decide), _, _, rfl, rfl, Int.ofNat_lt.mpr (by decide), ?_⟩⟩
    obtain ⟨kp, hm, ha⟩ := pick_mod (vs := [0, 1, 2, 3, 100000000000000000000]) (c := c * 48271 % 1049) (m := 5) rfl (by decide)
    have hkp : 0 ≤ kp ∧ kp < 10 ^ 91 := (by decide : ∀ v ∈ ([0, 1, 2, 3, 100000000000000000000] : List Int), 0 ≤ v ∧ v < 10 ^ 91) _ hm
    refine ⟨p, _, _, V.int kp, rfl, rfl, SqL.of upd_same, ha, ?_⟩
    refine ⟨_, rfl, _, _, rfl, rfl, .inr ⟨by decide, by decide⟩, _, _, rfl, rfl, Int.ofNat_lt.mpr (by decide), _, _, rfl, rfl, Int.ofNat_lt.mpr (by decide), ?_⟩
    refine ⟨rfl, _, rfl, ite2 (fun _ => ?_) (fun _ => ?_)⟩
    · refine ⟨_, rfl, _, _, rfl, rfl, Int.ofNat_lt.mpr (by decide), _, _, rfl, rfl, ?_⟩
      have m1 := Int.emod_nonneg c (show (9 : Int) ≠ 0 by decide)
      have m2 := Int.emod_lt_of_pos c (show (0 : Int) < 9 by decide)
      exact fin _ _ _ ⟨by omega, Int.lt_trans (show 4 + c % 9 < 13 by omega) (by decide)⟩ (Same.upd hp)
    · exact fin _ _ _ hkp (Same.upd hp)
end
end RK

set_option autoImplicit false
set_option maxRecDepth 100000
set_option linter.all false
set_option Elab.async false
set_option maxHeartbeats 8000000
namespace RK
open PySem
open L2 hiding pv pe_bltn pe_int pe_bl pe_non pe_str pe_lst pe_tup pe_op pe_ix pe_callB pe_callTy pe_call pe_cmp pe_cmpR pe_and pe_one pe_not pe_slice pe_dget pe_dget1 pe_dnewK pe_bm pt_cmp pt_cmpR pt_not pt_val pw_or pw_or1 pw_and pw_and1 pa_nil pa_cons pa_int pa_nm pa_bin pa_sub pa_call pa_tup pss_cons pss_one pss_nil ps_set ps_if ps_for ps_ret ps_expr ps_dput pg_name pg_tup pgs_nil pgs_cons pi_list pi_tup pi_range1 po_none po_some pc_isN pe_comp ps_setC pf_nil pf_one pc_din pc_dnotin pc_notN pe_dget2 pe_dpop1 pe_un pe_fld ps_fld pi_range2 pe_meth pe_meth0 pe_make pe_sortItems ps_raise ph_nil ph_cons ps_tryX ps_par PH PE PT PW PA PS PSs PC PG PGs PI PO PF
open R hiding ok
section
variable {P : Program} {w : World} {K : PySem.W.Frag} {mg : Str → Option Value} {base : Heap} {f : Addr} {fd : FuncData}
def hallD (pl d l p : Addr) : List (Key × V) := [(Sum.inr "plan", .ref pl), (Sum.inr "keepers", .ref d), (Sum.inr "names", .ref l), (Sum.inr "rows", .ref p)]
theorem hall1 : ¬ (Sum.inr ("plan" : Str) : Key) = Sum.inr ("keepers" : Str) := by decide +kernel
theorem hall2 : ¬ (Sum.inr ("plan" : Str) : Key) = Sum.inr ("names" : Str) := by decide +kernel
theorem hall3 : ¬ (Sum.inr ("keepers" : Str) : Key) = Sum.inr ("names" : Str) := by decide +kernel
theorem hall4 : ¬ (Sum.inr ("plan" : Str) : Key) = Sum.inr ("rows" : Str) := by decide +kernel
theorem hall5 : ¬ (Sum.inr ("keepers" : Str) : Key) = Sum.inr ("rows" : Str) := by decide +kernel
theorem hall6 : ¬ (Sum.inr ("names" : Str) : Key) = Sum.inr ("rows" : Str) := by decide +kernel
theorem hall_plan (pl d l p : Addr) : valV (hallD pl d l p) (Sum.inr "plan" : Key) = some (.ref pl) := valV_pos rfl
theorem hall_keep (pl d l p : Addr) : valV (hallD pl d l p) (Sum.inr "keepers" : Key) = some (.ref d) := (valV_neg hall1).trans (valV_pos rfl)
theorem hall_names (pl d l p : Addr) : valV (hallD pl d l p) (Sum.inr "names" : Key) = some (.ref l) := (valV_neg hall2).trans ((valV_neg hall3).trans (valV_pos rfl))
theorem hall_rows (pl d l p : Addr) : valV (hallD pl d l p) (Sum.inr "rows" : Key) = some (.ref p) := (valV_neg hall4).trans ((valV_neg hall5).trans ((valV_neg hall6).trans (valV_pos rfl)))
theorem hall_put (pl d l p p' : Addr) : putK (hallD pl d l p) (Sum.inr "rows" : Key) (.ref p') = hallD pl d l p' := by
  unfold putK
  rw [if_pos (by rw [valV_any, hall_rows]; rfl)]
  show [if (Sum.inr ("plan" : Str) : Key) = Sum.inr ("rows" : Str) then _ else _, if (Sum.inr ("keepers" : Str) : Key) = Sum.inr ("rows" : Str) then _ else _, if (Sum.inr ("names" : Str) : Key) = Sum.inr ("rows" : Str) then _ else _, if (Sum.inr ("rows" : Str) : Key) = Sum.inr ("rows" : Str) then _ else _] = _
  rw [if_neg hall4, if_neg hall5, if_neg hall6, if_pos rfl]
  rfl
theorem hall_ne (pl d l p : Addr) (kvs : List (Int × Nat)) : hallD pl d l p ≠ keepD kvs := fun e => by
  cases kvs with
  | nil => cases e
  | cons x r => cases e
/-- the law's own ring -/
structure HAt (K : PySem.W.Frag) (H : Hp) (h pl d l p : Addr) (size each : Int) (kvs : List (Int × Nat)) (names : List Int) (bs : List Addr) (rs : List Row) : Prop where
  hh : H h = some (.dK (hallD pl d l p))
  tp : SqT K H pl [.int size, .int each]
  dc : H d = some (.dK (keepD kvs))
  nm : H l = some (.lst (names.map V.int))
  rw : H p = some (.lst (bs.map V.ref))
  rs : Rows H bs rs
  lp : l ≠ p
section
variable {H H' : Hp} {h pl d l p : Addr} {size each : Int} {kvs kvs' : List (Int × Nat)} {names names' : List Int} {bs : List Addr} {rs : List Row}
theorem HAt.hd (S : HAt K H h pl d l p size each kvs names bs rs) : h ≠ d := fun z => by
  have e := S.hh
  rw [z, S.dc] at e
  exact hall_ne _ _ _ _ _ (HO.dK.inj (Option.some.inj e)).symm
theorem HAt.same (S : HAt K H h pl d l p size each kvs names bs rs) (s : Same H H') : HAt K H' h pl d l p size each kvs names bs rs := ⟨s _ _ S.hh, s.tup S.tp, s _ _ S.dc, s _ _ S.nm, s _ _ S.rw, S.rs.same s, S.lp⟩
theorem tupU {a b : Addr} {o o' : HO} {xs : List V} (h : SqT K H a xs) (hb : H b = some o) (no : (∀ ys, o ≠ .tup ys) ∧ ∀ q u, o ≠ .frz q u) : SqT K (upd H b o') a xs := by
  have nb : ∀ {c : Addr} {u : HO}, H c = some u → ((∃ ys, u = .tup ys) ∨ ∃ q v, u = .frz q v) → c ≠ b := fun e hu z => by
    rw [z, hb] at e
    cases e
    rcases hu with ⟨ys, rfl⟩ | ⟨q, v, rfl⟩
    · exact no.1 _ rfl
    · exact no.2 _ _ rfl
  rcases h with (h | ⟨o2, h⟩) | h
  · exact .inl (.inl (by rw [upd_ne (nb h (.inl ⟨_, rfl⟩))]; exact h))
  · exact .inl (.inr ⟨o2, by rw [upd_ne (nb h (.inr ⟨_, _, rfl⟩))]; exact h⟩)
  · exact .inr h
theorem HAt.keep (S : HAt K H h pl d l p size each kvs names bs rs) : HAt K (upd H d (.dK (keepD kvs'))) h pl d l p size each kvs' names bs rs := by
  have nd : ∀ {b : Addr} {o : HO}, H b = some o → (∀ kvs, o ≠ .dK kvs) → b ≠ d := fun e ho z => by
    rw [z, S.dc] at e
    exact ho _ (Option.some.inj e).symm
  exact ⟨by rw [upd_ne S.hd]; exact S.hh, tupU S.tp S.dc ⟨fun _ z => (by cases z), fun _ _ z => (by cases z)⟩, upd_same, by rw [upd_ne (nd S.nm fun _ z => by cases z)]; exact S.nm, by rw [upd_ne (nd S.rw fun _ z => by cases z)]; exact S.rw, S.rs.upd (fun xs e => by rw [S.dc] at e; cases e), S.lp⟩
theorem HAt.name (S : HAt K H h pl d l p size each kvs names bs rs) : HAt K (upd H l (.lst (names'.map V.int))) h pl d l p size each kvs names' bs rs := by
  have nd : ∀ {b : Addr} {o : HO}, H b = some o → (∀ xs, o ≠ .lst xs) → b ≠ l := fun e ho z => by
    rw [z, S.nm] at e
    exact ho _ (Option.some.inj e).symm
  exact ⟨by rw [upd_ne (nd S.hh fun _ z => by cases z)]; exact S.hh, tupU S.tp S.nm ⟨fun _ z => (by cases z), fun _ _ z => (by cases z)⟩, by rw [upd_ne (nd S.dc fun _ z => by cases z)]; exact S.dc, upd_same, by rw [upd_ne S.lp.symm]; exact S.rw, S.rs.upd (fun xs e => by rw [S.nm] at e; cases e), S.lp⟩
theorem HAt.rows {p' : Addr} {bs' : List Addr} {rs' : List Row} (S : HAt K H h pl d l p size each kvs names bs rs) (hp : H p' = some (.lst (bs'.map V.ref))) (hr : Rows H bs' rs') (hlp : l ≠ p') : HAt K (upd H h (.dK (hallD pl d l p'))) h pl d l p' size each kvs names bs' rs' := by
  have nd : ∀ {b : Addr} {o : HO}, H b = some o → (∀ xs, o ≠ .dK xs) → b ≠ h := fun e ho z => by
    rw [z, S.hh] at e
    exact ho _ (Option.some.inj e).symm
  exact ⟨upd_same, tupU S.tp S.hh ⟨fun _ z => (by cases z), fun _ _ z => (by cases z)⟩, by rw [upd_ne S.hd.symm]; exact S.dc, by rw [upd_ne (nd S.nm fun _ z => by cases z)]; exact S.nm, by rw [upd_ne (nd hp fun _ z => by cases z)]; exact hp, hr.upd (fun xs e => by rw [S.hh] at e; cases e), hlp⟩
theorem HAt.gK (S : HAt K H h pl d l p size each kvs names bs rs) : DGet H h (.str "keepers") (some (.ref d)) := by
  have := DGet.k (k := Sum.inr "keepers") S.hh
  rw [hall_keep] at this
  exact this
theorem HAt.gN (S : HAt K H h pl d l p size each kvs names bs rs) : DGet H h (.str "names") (some (.ref l)) := by
  have := DGet.k (k := Sum.inr "names") S.hh
  rw [hall_names] at this
  exact this
theorem HAt.gR (S : HAt K H h pl d l p size each kvs names bs rs) : DGet H h (.str "rows") (some (.ref p)) := by
  have := DGet.k (k := Sum.inr "rows") S.hh
  rw [hall_rows] at this
  exact this
theorem HAt.gP (S : HAt K H h pl d l p size each kvs names bs rs) : DGet H h (.str "plan") (some (.ref pl)) := by
  have := DGet.k (k := Sum.inr "plan") S.hh
  rw [hall_plan] at this
  exact this
end
theorem oldL_at (n : Int) : ∀ rs : List Row, n ∈ rs.map (·.1) → (oldL rs n)[0]? = some (optV (oldK rs n)) := fun rs h => by
  have e := oldL_head n rs
  have hl : 0 < (oldL rs n).length := by
    obtain ⟨r, hr, rfl⟩ := List.mem_map.mp h
    unfold oldL
    rw [List.length_map]
    exact List.length_pos_of_mem (List.mem_filter.mpr ⟨hr, decide_eq_true rfl⟩)
  rw [List.getElem?_append_left hl] at e
  exact e
def elseS (s : Stmt) : Stmt := match s with
  | .If _ _ b _ => b.getD 0 (.Pass ⟨0, 0, 0, 0⟩)
  | s => s
def retV (s : Stmt) : Expr := match s with
  | .Return (some (.Subscript e _ _)) _ => e
  | _ => .Constant .none 0 ⟨0, 0, 0, 0⟩
def spDue (K : PySem.W.Frag) : Sp := fun vs H Q _ => ∃ (h t pl d l p : Addr) (size each : Int) (kvs : List (Int × Nat)) (names : List Int) (bs : List Addr) (dd : Deed), vs = [.ref h, .ref t] ∧ H t = some (.tup dd.vs) ∧ HAt K H h pl d l p size each kvs names bs (dealOf size each kvs names) ∧ IsDeal size each kvs names (dealOf size each kvs names) ∧
  0 < size ∧ 0 ≤ each ∧ Fit kvs names ∧ kvs.length < 100 ∧ names.length < 100 ∧ dd.good kvs names ∧
  ∀ (H' : Hp) (p' : Addr) (bs' : List Addr) (v : V), HAt K H' h pl d l p' size each (dd.kv kvs) (dd.nm names) bs' (dealOf size each (dd.kv kvs) (dd.nm names)) → IsDeal size each (dd.kv kvs) (dd.nm names) (dealOf size each (dd.kv kvs) (dd.nm names)) → Kept h d l H H' → AnsOk size each kvs names H' v dd → Q v H'
theorem scDue : FnScope ["_law_hall", "_law_deed", "_law_keepers", "_law_names", "_law_before"] ["_law_hall", "_law_deed"] (defScope sDue) := ⟨rfl, rfl, rfl, by decide +kernel, rfl, by decide +kernel, by decide +kernel⟩
theorem csDue : CScope (defScope sDue) ["_law_hall", "_law_deed", "_law_keepers", "_law_names", "_law_before"] ["_law_row", "_law_deed"] [none, some 1] (compScope (retV (elseS (elseS (elseS (elseS (elseS ((defBody sDue).getD 1 (.Pass ⟨0, 0, 0, 0⟩))))))))) :=
  ⟨rfl, by decide +kernel, by decide +kernel, rfl, by decide +kernel, by decide +kernel, fun j i hj h => by
    match j, hj, h with
    | 0, _, h => cases h
    | 1, _, h => cases h; exact ⟨_, rfl, rfl, by decide +kernel⟩⟩
theorem ok_due (F : Fun K "_law_due_answer" "_law_due_answer" sDue f fd) (B : Blt mg) (h1 : Has P w K mg base "_law_own_deal" ["_law_plan", "_law_keepers", "_law_names"] sOwnDeal 2 (spDeal K)) (h2 : Has P w K mg base "_law_own_moves" ["_law_before", "_law_after"] sOwnMoves 1 (spMoves K)) : FnOk P w K mg base CX0 3 f fd ["_law_hall", "_law_deed"] (spDue K) := by
  obtain ⟨fo, dfo, Ad, Gd⟩ := h1
  obtain ⟨fm, dfm, Am, Gm⟩ := h2
  refine R.ok F scDue (fun vs H Q E h => ?_) (fun cdv A outer s H vs Q E hr h => ?_)
  · obtain ⟨_, _, _, _, _, _, _, _, _, _, _, _, rfl, _⟩ := h
    rfl
  · obtain ⟨h, t, pl, d, l, p, size, each, kvs, names, bs, dd, rfl, ht, S, D, hz, he, ft, hk, hn, g, q⟩ := h
    have hu := hu_of hr
    have hr1 := hr.mono (show 1 ≤ 2 by decide)
    have hdc := S.dc
    have hnm := S.nm
    -- the ring is dealt anew
    have fin : ∀ H1 : Hp, HAt K H1 h pl d l p size each (dd.kv kvs) (dd.nm names) bs (dealOf size each kvs names) → Kept h d l H H1 → (∀ (H' : Hp) (pm : Addr) (ts : List Addr), H' pm = some (.lst (ts.map V.ref)) → Movs H' ts (movK (dealOf size each kvs names) (dealOf size each (dd.kv kvs) (dd.nm names))) → AnsOk size each kvs names H' (.ref pm) dd) →
        R.tAny (cxOf CX0 P w K mg base ["_law_hall", "_law_deed", "_law_keepers", "_law_names", "_law_before"] "_law_due_answer" (defScope sDue) f cdv A outer s H E).nox (List.drop 2 (defBody sDue)) { nx := fun _ H' => Q .non H', rt := Q } [some (.ref h), some (.ref t), some (.ref d), some (.ref l), none] H1 := by
      intro H1 S1 kp hans
      have ft1 := ft.step g
      have l1 := kv_len kvs dd
      have l2 := nm_len names dd
      refine ⟨_, (pss_cons (ps_set (i := 4) scDue.nd rfl (Or.inl rfl) (pe_dget hu (pv 0) (pe_str) (fun _ _ => rfl))) <|
      pss_cons (ps_dput hu (pv 0) (pe_str) (pe_call Gd hr (by rfl) Ad.mgf Ad.F.kp Ad.b .nil pass0 (pa_sub (pe_dget hu (pv 0) (pe_str) (fun _ _ => rfl)) (pa_nm (pv 2) (pa_nm (pv 3) pa_nil)))) rfl) <|
      pss_one (ps_ret (pe_call Gm hr1 (by rfl) Am.mgf Am.F.kp Am.b .nil pass0 (pa_nm (pv 4) (pa_sub (pe_dget hu (pv 0) (pe_str) (fun _ _ => rfl)) pa_nil))))), ?_⟩
      refine ⟨_, rfl, h, _, rfl, S1.gR, ?_⟩
      refine ⟨_, rfl, h, _, rfl, S1.gP, _, rfl, _, rfl, pl, d, l, size, each, _, _, rfl, S1.tp, S1.dc, SqL.of S1.nm, hz, he, ft1.ok, ft1.no, ft1.nd, ft1.fw.1, ft1.fw.2, fun H2 p' bs' ns μ sm hpn hp' hfr hpm hsrt rs1 St => ?_⟩
      have D2 : IsDeal size each (dd.kv kvs) (dd.nm names) (ns.map fun n => (n, μ n)) := ⟨ns, μ, rfl, hpm, hsrt, St⟩
      have e2 := D2.eq
      have nlp : l ≠ p' := ne_of_none S1.nm hpn
      have S2 := (S1.same sm).rows hp' rs1 nlp
      refine ⟨_, rfl, h, _, rfl, DPut.k (k := Sum.inr "rows") (S1.same sm).hh (by show 4 < sizeLine; decide), ?_⟩
      rw [hall_put]
      have nh : ∀ {b : Addr} {xs : List V}, H1 b = some (.lst xs) → b ≠ h := fun e z => by rw [z, S1.hh] at e; cases e
      have hrw2 : (upd H2 h (.dK (hallD pl d l p'))) p = some (.lst (bs.map V.ref)) := by rw [upd_ne (nh S1.rw)]; exact sm _ _ S1.rw
      have hrs2 : Rows (upd H2 h (.dK (hallD pl d l p'))) bs (dealOf size each kvs names) := (S1.rs.same sm).upd fun xs e => by rw [sm _ _ S1.hh] at e; cases e
      have lD := D.len
      have lD2 := D2.len
      refine ⟨_, rfl, _, rfl, h, _, rfl, S2.gR, p, p', bs, bs', _, _, rfl, SqL.of hrw2, hrs2, SqL.of S2.rw, S2.rs, D.nd ft.nd, by omega, by omega, fun pm ts H4 s4 hpmn hpm4 _ ms => ?_⟩
      rw [e2] at ms S2 D2
      refine q H4 p' bs' (.ref pm) (S2.same s4) D2 (fun b o n1 n2 n3 e => s4 _ _ ?_) (hans H4 pm ts hpm4 ms)
      rw [upd_ne n1]
      exact sm _ _ (kp b o n1 n2 n3 e)
    have stay : dd.kv kvs = kvs → dd.nm names = names → ∀ v, AnsOk size each kvs names H v dd → Q v H := fun e1 e2 v hv => q H p bs v (by rw [e1, e2]; exact S) (by rw [e1, e2]; exact D) (fun _ _ _ _ _ e => e) hv
    refine ⟨_, (pss_cons (ps_par rfl scDue.nd (i := 2) (j := 3) rfl rfl (by decide) rfl rfl (pa_sub (pe_dget hu (pv 0) (pe_str) (fun _ _ => rfl)) (pa_sub (pe_dget hu (pv 0) (pe_str) (fun _ _ => rfl)) pa_nil)) (by rfl)) <|
      pss_cons (ps_if (pt_cmpR op_eq (pe_ix ix_tup (pv 1) (pe_int) (fun _ _ => rfl)) (pe_str) (nomark _)) (pss_cons (ps_if (pt_cmp (pc_din hu (pe_ix ix_tup (pv 1) (pe_int) (fun _ _ => rfl)) (pv 2))) (pss_one (ps_ret (pe_str))) pss_nil) <|
        pss_cons (ps_if (pt_cmpR op_lt (pe_ix ix_tup (pv 1) (pe_int) (fun _ _ => rfl)) (pe_int) (nomark _)) (pss_one (ps_ret (pe_str))) pss_nil) <|
        pss_one (ps_dput hu (pv 2) (pe_ix ix_tup (pv 1) (pe_int) (fun _ _ => rfl)) (pe_ix ix_tup (pv 1) (pe_int) (fun _ _ => rfl)) rfl)) (pss_one (ps_if (pt_cmpR op_eq (pe_ix ix_tup (pv 1) (pe_int) (fun _ _ => rfl)) (pe_str) (nomark _)) (pss_cons (ps_if (pt_cmp (pc_dnotin hu (pe_ix ix_tup (pv 1) (pe_int) (fun _ _ => rfl)) (pv 2))) (pss_one (ps_ret (pe_str))) pss_nil) <|
          pss_one (ps_expr (pe_dpop1 (pv 2) (pe_ix ix_tup (pv 1) (pe_int) (fun _ _ => rfl)) ⟨by rfl, by rfl, by rfl, by rfl⟩))) (pss_one (ps_if (pt_cmpR op_eq (pe_ix ix_tup (pv 1) (pe_int) (fun _ _ => rfl)) (pe_str) (nomark _)) (pss_cons (ps_if (pt_cmpR op_in_seq (pe_ix ix_tup (pv 1) (pe_int) (fun _ _ => rfl)) (pv 3) (by rfl)) (pss_one (ps_ret (pe_str))) pss_nil) <|
            pss_one (ps_expr (pe_bm PySem.F.plainAttrs_list PySem.F.slot_list_append PySem.F.type_list_append mt_append (pv 3) (pa_sub (pe_ix ix_tup (pv 1) (pe_int) (fun _ _ => rfl)) pa_nil)))) (pss_one (ps_if (pt_cmpR op_notIn_seq (pe_ix ix_tup (pv 1) (pe_int) (fun _ _ => rfl)) (pv 3) (by rfl)) (pss_one (ps_ret (pe_str))) (pss_one (ps_if (pt_cmpR op_eq (pe_ix ix_tup (pv 1) (pe_int) (fun _ _ => rfl)) (pe_str) (nomark _)) (pss_one (ps_expr (pe_bm PySem.F.plainAttrs_list PySem.F.slot_list_remove PySem.F.type_list_remove mt_remove (pv 3) (pa_sub (pe_ix ix_tup (pv 1) (pe_int) (fun _ _ => rfl)) pa_nil)))) (pss_one (ps_ret (pe_ix ix_list (pe_comp csDue rfl rfl rfl (pi_list (pe_dget hu (pv 0) (pe_str) (fun _ _ => rfl))) (fun cl s₀ H₀ fp => pg_name (i := 0) csDue.nd rfl (Or.inl rfl) (Or.inr rfl)) (fun cl s₀ H₀ fp => pf_one (pt_cmpR op_eq (pe_ix (r := rIxT K) ix_tup (pv 0) (pe_int) (fun _ _ => rfl)) (pe_ix (r := rIxT K) ix_tup (pv 1) (pe_int) (fun _ _ => rfl)) (nomark _))) (fun cl s₀ H₀ fp => pe_ix (r := rIxT K) ix_tup (pv 0) (pe_int) (fun _ _ => rfl))) (pe_int) (fun _ _ => rfl))))))))))))) <|
      pss_any), ?_⟩
    refine ⟨_, rfl, h, _, rfl, S.gK, _, rfl, h, _, rfl, S.gN, _, _, rfl, ?_⟩
    cases dd with
    | come k sh =>
      obtain ⟨g1, g2, g3⟩ := id g
      refine ⟨_, rfl, t, _, 0, V.str "come", rfl, rfl, SqT.of ht, rfl, rfl, _, rfl, iteDT rfl ?_⟩
      refine ⟨_, rfl, t, _, 1, V.int k, rfl, rfl, SqT.of ht, rfl, _, rfl, d, _, rfl, DGet.k (k := Sum.inl k) hdc, _, rfl, ?_⟩
      rw [keepD_none g1]
      refine iteF ⟨_, rfl, t, _, 2, V.int (sh : Int), rfl, rfl, SqT.of ht, rfl, _, _, rfl, rfl, _, rfl, ?_⟩
      rw [decide_eq_false (by omega)]
      refine iteF ⟨_, rfl, t, _, 2, V.int (sh : Int), rfl, rfl, SqT.of ht, rfl, _, rfl, _, rfl, t, _, 1, V.int k, rfl, rfl, SqT.of ht, rfl, d, _, rfl, DPut.k (k := Sum.inl k) hdc (by unfold keepD; rw [List.length_map]; exact small_1000 (by omega)), ?_⟩
      rw [keepD_snoc _ _ _ g1]
      exact fin _ S.keep (fun b o _ n2 _ e => by rw [upd_ne n2]; exact e) fun H' pm ts a b => ⟨pm, ts, rfl, a, b⟩
    | leave k =>
      obtain ⟨v, hv⟩ := keepD_some (show k ∈ kvs.map (·.1) from g)
      refine ⟨_, rfl, t, _, 0, V.str "leave", rfl, rfl, SqT.of ht, rfl, rfl, _, rfl, iteDF (by decide +kernel) ?_⟩
      refine ⟨_, rfl, t, _, 0, V.str "leave", rfl, rfl, SqT.of ht, rfl, rfl, _, rfl, iteDT rfl ?_⟩
      refine ⟨_, rfl, t, _, 1, V.int k, rfl, rfl, SqT.of ht, rfl, _, rfl, d, _, rfl, DGet.k (k := Sum.inl k) hdc, _, rfl, ?_⟩
      rw [hv]
      refine iteF ⟨_, rfl, d, rfl, .inl ⟨_, .inl hdc⟩, _, rfl, t, _, 1, V.int k, rfl, rfl, SqT.of ht, rfl, keepD kvs, Sum.inl k, v, hdc, rfl, hv, ?_⟩
      rw [keepD_drop]
      exact fin _ S.keep (fun b o _ n2 _ e => by rw [upd_ne n2]; exact e) fun H' pm ts a b => ⟨pm, ts, rfl, a, b⟩
    | put n =>
      obtain ⟨g1, g2⟩ := id g
      refine ⟨_, rfl, t, _, 0, V.str "put", rfl, rfl, SqT.of ht, rfl, rfl, _, rfl, iteDF (by decide +kernel) ?_⟩
      refine ⟨_, rfl, t, _, 0, V.str "put", rfl, rfl, SqT.of ht, rfl, rfl, _, rfl, iteDF (by decide +kernel) ?_⟩
      refine ⟨_, rfl, t, _, 0, V.str "put", rfl, rfl, SqT.of ht, rfl, rfl, _, rfl, iteDT rfl ?_⟩
      refine ⟨_, rfl, t, _, 1, V.int n, rfl, rfl, SqT.of ht, rfl, _, rfl, l, _, rfl, .inl (SqL.of hnm), rfl, by rw [List.all_map]; exact List.all_eq_true.mpr fun _ _ => rfl, _, rfl, ?_⟩
      rw [inV_ints, decide_eq_false g1]
      refine iteF ⟨_, rfl, .inl ⟨rfl, _, SqL.of hnm⟩, _, rfl, t, _, 1, V.int n, rfl, rfl, SqT.of ht, rfl, l, _, _, rfl, rfl, hnm, by rw [List.length_map]; exact small_1000 (by omega), ?_⟩
      have e1 : names.map V.int ++ [V.int n] = (names ++ [n]).map V.int := by rw [List.map_append]; rfl
      rw [e1]
      exact fin _ S.name (fun b o _ _ n3 e => by rw [upd_ne n3]; exact e) fun H' pm ts a b => ⟨pm, ts, rfl, a, b⟩
    | drop n =>
      have g1 : n ∈ names := g
      refine ⟨_, rfl, t, _, 0, V.str "drop", rfl, rfl, SqT.of ht, rfl, rfl, _, rfl, iteDF (by decide +kernel) ?_⟩
      refine ⟨_, rfl, t, _, 0, V.str "drop", rfl, rfl, SqT.of ht, rfl, rfl, _, rfl, iteDF (by decide +kernel) ?_⟩
      refine ⟨_, rfl, t, _, 0, V.str "drop", rfl, rfl, SqT.of ht, rfl, rfl, _, rfl, iteDF (by decide +kernel) ?_⟩
      refine ⟨_, rfl, t, _, 1, V.int n, rfl, rfl, SqT.of ht, rfl, _, rfl, l, _, rfl, .inl (SqL.of hnm), rfl, by rw [List.all_map]; exact List.all_eq_true.mpr fun _ _ => rfl, _, rfl, ?_⟩
      rw [inV_ints, decide_eq_true g1]
      refine iteF ?_
      refine ⟨_, rfl, t, _, 0, V.str "drop", rfl, rfl, SqT.of ht, rfl, rfl, _, rfl, iteDT rfl ?_⟩
      refine ⟨_, rfl, .inl ⟨rfl, _, SqL.of hnm⟩, _, rfl, t, _, 1, V.int n, rfl, rfl, SqT.of ht, rfl, l, names, n, rfl, rfl, hnm, g1, ?_⟩
      exact fin _ S.name (fun b o _ _ n3 e => by rw [upd_ne n3]; exact e) fun H' pm ts a b => ⟨pm, ts, rfl, a, b⟩
    | wher n =>
      have g1 : n ∈ names := g
      refine ⟨_, rfl, t, _, 0, V.str "where", rfl, rfl, SqT.of ht, rfl, rfl, _, rfl, iteDF (by decide +kernel) ?_⟩
      refine ⟨_, rfl, t, _, 0, V.str "where", rfl, rfl, SqT.of ht, rfl, rfl, _, rfl, iteDF (by decide +kernel) ?_⟩
      refine ⟨_, rfl, t, _, 0, V.str "where", rfl, rfl, SqT.of ht, rfl, rfl, _, rfl, iteDF (by decide +kernel) ?_⟩
      refine ⟨_, rfl, t, _, 1, V.int n, rfl, rfl, SqT.of ht, rfl, _, rfl, l, _, rfl, .inl (SqL.of hnm), rfl, by rw [List.all_map]; exact List.all_eq_true.mpr fun _ _ => rfl, _, rfl, ?_⟩
      rw [inV_ints, decide_eq_true g1]
      refine iteF ?_
      refine ⟨_, rfl, t, _, 0, V.str "where", rfl, rfl, SqT.of ht, rfl, rfl, _, rfl, iteDF (by decide +kernel) ?_⟩
      refine ⟨_, rfl, h, _, rfl, S.gR, p, rfl, ⟨_, SqL.of S.rw⟩, fun y hy => ?_⟩
      refine comp_list (xs := bs.map V.ref) (fun j σ H' => ∃ v0, σ = [v0, some (.ref t)] ∧ H' = upd H y (.lst (oldL ((dealOf size each kvs names).take j) n)))
        ⟨none, rfl, rfl⟩ (fun j σ H' _ ⟨_, _, e⟩ => by rw [e]; exact SqL.of (Same.upd hy _ _ S.rw)) ?_ ?_
      · rintro j x σ H' hj ⟨v0, rfl, rfl⟩
        obtain ⟨e, he, rfl⟩ := ref_at hj
        obtain ⟨u, hu0, het⟩ := S.rs.at he
        have het' : (upd H y (.lst (oldL ((dealOf size each kvs names).take j) n))) e = some (.tup [V.int u.1, optV u.2]) := Same.upd hy _ _ het
        refine ⟨_, rfl, e, _, 0, V.int u.1, rfl, rfl, SqT.of het', rfl, _, rfl, t, _, 1, V.int n, rfl, rfl, SqT.of (Same.upd hy _ _ ht), rfl, rfl, _, rfl, ?_⟩
        rw [oldL_snoc hu0, dec_int2]
        refine ite2 (fun hc => ?_) (fun hc => ?_)
        · rw [if_pos hc]
          refine ⟨_, rfl, e, _, 1, optV u.2, rfl, rfl, SqT.of het', rfl, _, upd_same, ?_, _, rfl, ?_⟩
          · have h1 := oldL_len ((dealOf size each kvs names).take j) n
            have h2 := D.len
            rw [List.length_take] at h1
            exact small_1000 (by omega)
          · rw [upd_upd]
        · rw [if_neg hc, List.append_nil]
          exact ⟨_, rfl, rfl⟩
      · rintro σ H' ⟨v0, rfl, rfl⟩
        have e : (bs.map V.ref).length = (dealOf size each kvs names).length := by rw [List.length_map, S.rs.length]
        rw [e, List.take_length]
        obtain ⟨ns, e1, e2⟩ := D.fst
        refine ⟨y, _, 0, optV (oldK (dealOf size each kvs names) n), rfl, rfl, SqL.of upd_same, atI_nat (oldL_at n _ (by rw [e1]; exact e2.mem_iff.mpr g1)), ?_⟩
        exact q _ p bs _ (S.same (Same.upd hy)) D (Kept.of (Same.upd hy)) rfl
    | refu tt r =>
      have g0 : tt.rf kvs names = some r := g
      have st := stay rfl rfl _ (rfl : AnsOk size each kvs names H (.str r.txt) (.refu tt r))
      cases tt with
      | come k sh =>
        replace g0 : (if k ∈ kvs.map (·.1) then some Rf.kt else if sh < 1 then some Rf.ns else none) = some r := g0
        refine ⟨_, rfl, t, _, 0, V.str "come", rfl, rfl, SqT.of ht, rfl, rfl, _, rfl, iteDT rfl ?_⟩
        refine ⟨_, rfl, t, _, 1, V.int k, rfl, rfl, SqT.of ht, rfl, _, rfl, d, _, rfl, DGet.k (k := Sum.inl k) hdc, _, rfl, ?_⟩
        by_cases hkk : k ∈ kvs.map (·.1)
        · rw [if_pos hkk] at g0
          cases g0
          obtain ⟨v, hv⟩ := keepD_some hkk
          rw [hv]
          exact iteT st
        · rw [if_neg hkk] at g0
          rw [keepD_none hkk]
          refine iteF ⟨_, rfl, t, _, 2, V.int sh, rfl, rfl, SqT.of ht, rfl, _, _, rfl, rfl, _, rfl, ?_⟩
          by_cases hs : sh < 1
          · rw [if_pos hs] at g0
            cases g0
            rw [decide_eq_true hs]
            exact iteT st
          · rw [if_neg hs] at g0
            cases g0
      | leave k =>
        replace g0 : (if k ∈ kvs.map (·.1) then none else some Rf.nk) = some r := g0
        refine ⟨_, rfl, t, _, 0, V.str "leave", rfl, rfl, SqT.of ht, rfl, rfl, _, rfl, iteDF (by decide +kernel) ?_⟩
        refine ⟨_, rfl, t, _, 0, V.str "leave", rfl, rfl, SqT.of ht, rfl, rfl, _, rfl, iteDT rfl ?_⟩
        refine ⟨_, rfl, t, _, 1, V.int k, rfl, rfl, SqT.of ht, rfl, _, rfl, d, _, rfl, DGet.k (k := Sum.inl k) hdc, _, rfl, ?_⟩
        by_cases hkk : k ∈ kvs.map (·.1)
        · rw [if_pos hkk] at g0
          cases g0
        · rw [if_neg hkk] at g0
          cases g0
          rw [keepD_none hkk]
          exact iteT st
      | put n =>
        replace g0 : (if n ∈ names then some Rf.nt else none) = some r := g0
        refine ⟨_, rfl, t, _, 0, V.str "put", rfl, rfl, SqT.of ht, rfl, rfl, _, rfl, iteDF (by decide +kernel) ?_⟩
        refine ⟨_, rfl, t, _, 0, V.str "put", rfl, rfl, SqT.of ht, rfl, rfl, _, rfl, iteDF (by decide +kernel) ?_⟩
        refine ⟨_, rfl, t, _, 0, V.str "put", rfl, rfl, SqT.of ht, rfl, rfl, _, rfl, iteDT rfl ?_⟩
        refine ⟨_, rfl, t, _, 1, V.int n, rfl, rfl, SqT.of ht, rfl, _, rfl, l, _, rfl, .inl (SqL.of hnm), rfl, by rw [List.all_map]; exact List.all_eq_true.mpr fun _ _ => rfl, _, rfl, ?_⟩
        by_cases hnn : n ∈ names
        · rw [if_pos hnn] at g0
          cases g0
          rw [inV_ints, decide_eq_true hnn]
          exact iteT st
        · rw [if_neg hnn] at g0
          cases g0
      | drop n =>
        replace g0 : (if n ∈ names then none else some Rf.nn) = some r := g0
        refine ⟨_, rfl, t, _, 0, V.str "drop", rfl, rfl, SqT.of ht, rfl, rfl, _, rfl, iteDF (by decide +kernel) ?_⟩
        refine ⟨_, rfl, t, _, 0, V.str "drop", rfl, rfl, SqT.of ht, rfl, rfl, _, rfl, iteDF (by decide +kernel) ?_⟩
        refine ⟨_, rfl, t, _, 0, V.str "drop", rfl, rfl, SqT.of ht, rfl, rfl, _, rfl, iteDF (by decide +kernel) ?_⟩
        refine ⟨_, rfl, t, _, 1, V.int n, rfl, rfl, SqT.of ht, rfl, _, rfl, l, _, rfl, .inl (SqL.of hnm), rfl, by rw [List.all_map]; exact List.all_eq_true.mpr fun _ _ => rfl, _, rfl, ?_⟩
        by_cases hnn : n ∈ names
        · rw [if_pos hnn] at g0
          cases g0
        · rw [if_neg hnn] at g0
          cases g0
          rw [inV_ints, decide_eq_false hnn]
          exact iteT st
      | wher n =>
        replace g0 : (if n ∈ names then none else some Rf.nn) = some r := g0
        refine ⟨_, rfl, t, _, 0, V.str "where", rfl, rfl, SqT.of ht, rfl, rfl, _, rfl, iteDF (by decide +kernel) ?_⟩
        refine ⟨_, rfl, t, _, 0, V.str "where", rfl, rfl, SqT.of ht, rfl, rfl, _, rfl, iteDF (by decide +kernel) ?_⟩
        refine ⟨_, rfl, t, _, 0, V.str "where", rfl, rfl, SqT.of ht, rfl, rfl, _, rfl, iteDF (by decide +kernel) ?_⟩
        refine ⟨_, rfl, t, _, 1, V.int n, rfl, rfl, SqT.of ht, rfl, _, rfl, l, _, rfl, .inl (SqL.of hnm), rfl, by rw [List.all_map]; exact List.all_eq_true.mpr fun _ _ => rfl, _, rfl, ?_⟩
        by_cases hnn : n ∈ names
        · rw [if_pos hnn] at g0
          cases g0
        · rw [if_neg hnn] at g0
          cases g0
          rw [inV_ints, decide_eq_false hnn]
          exact iteT st
end
end RK

set_option autoImplicit false
set_option maxRecDepth 100000
set_option linter.all false
set_option Elab.async false
set_option maxHeartbeats 8000000
namespace RK
open PySem
open L2 hiding pv pe_bltn pe_int pe_bl pe_non pe_str pe_lst pe_tup pe_op pe_ix pe_callB pe_callTy pe_call pe_cmp pe_cmpR pe_and pe_one pe_not pe_slice pe_dget pe_dget1 pe_dnewK pe_bm pt_cmp pt_cmpR pt_not pt_val pw_or pw_or1 pw_and pw_and1 pa_nil pa_cons pa_int pa_nm pa_bin pa_sub pa_call pa_tup pss_cons pss_one pss_nil ps_set ps_if ps_for ps_ret ps_expr ps_dput pg_name pg_tup pgs_nil pgs_cons pi_list pi_tup pi_range1 po_none po_some pc_isN pe_comp ps_setC pf_nil pf_one pc_din pc_dnotin pc_notN pe_dget2 pe_dpop1 pe_un pe_fld ps_fld pi_range2 pe_meth pe_meth0 pe_make pe_sortItems PE PT PW PA PS PSs PC PG PGs PI PO PF
open R hiding ok
section
variable {P : Program} {w : World} {K : PySem.W.Frag} {mg : Str → Option Value} {base : Heap} {f : Addr} {fd : FuncData}
theorem kit_none_str (K : PySem.W.Frag) : PySem.W.kitOne K (.type "NoneType") (.type "str") = some false := by with_unfolding_all rfl
theorem kit_int_str (K : PySem.W.Frag) : PySem.W.kitOne K (.type "int") (.type "str") = some false := by with_unfolding_all rfl
theorem kit_int_list (K : PySem.W.Frag) : PySem.W.kitOne K (.type "int") (.type "list") = some false := by with_unfolding_all rfl
theorem eq_same {X : Cx} {H : Hp} {x y : V} {d : PyData} {n : Nat} {Q : VK} (hx : Dat X.K H x d) (hy : Dat X.K H y d) (hd : Nice n d) (hn : n ≤ 60) (q : Q (.bl true) H) : rEqD X false x y H Q := by
  refine ⟨d, d, hx, hy, hd.lay, hd.lay, Nat.le_trans hd.dep hn, ?_⟩
  rw [hd.slf]
  exact q
/-- two answers alike -/
inductive Lik (H : Hp) : V → V → Prop where
  | str (z : Str) : Lik H (.str z) (.str z)
  | non : Lik H .non .non
  | int (i : Int) : Lik H (.int i) (.int i)
  | mov {p p' : Addr} {ts ts' : List Addr} {ms : List Mov} (h1 : H p = some (.lst (ts.map V.ref))) (h2 : Movs H ts ms) (h3 : H p' = some (.lst (ts'.map V.ref))) (h4 : Movs H ts' ms) : Lik H (.ref p) (.ref p')
theorem lik_opt {H : Hp} (o : Option Int) : Lik H (optV o) (optV o) := by
  cases o with
  | none => exact .non
  | some k => exact .int k
theorem AnsOk.lik {size each : Int} {kvs : List (Int × Nat)} {names : List Int} {H : Hp} {v v' : V} {dd : Deed} (h : AnsOk size each kvs names H v dd) (h' : AnsOk size each kvs names H v' dd) : Lik H v v' := by
  cases dd with
  | wher n =>
    have e : v = v' := Eq.trans h (Eq.symm h')
    subst e
    have e : v = optV (oldK (dealOf size each kvs names) n) := h
    subst e
    exact lik_opt _
  | refu t r =>
    have e : v = v' := Eq.trans h (Eq.symm h')
    subst e
    have e : v = .str r.txt := h
    subst e
    exact .str _
  | _ =>
    obtain ⟨pm, ts, rfl, h1, h2⟩ := h
    obtain ⟨pm', ts', rfl, h3, h4⟩ := h'
    exact .mov h1 h2 h3 h4
def spAlike (K : PySem.W.Frag) : Sp := fun vs H Q _ => ∃ x y, vs = [x, y] ∧ Lik H x y ∧ ∀ H', Same H H' → Q (.bl true) H'
theorem scAlike : FnScope ["_law_found", "_law_due"] ["_law_found", "_law_due"] (defScope sAlike) := ⟨rfl, rfl, rfl, by decide +kernel, rfl, by decide +kernel, by decide +kernel⟩
theorem ok_alike (F : Fun K "_law_alike" "_law_alike" sAlike f fd) (B : Blt mg) (h1 : Has P w K mg base "_law_whole" ["_law_found"] sWhole 1 spWhole) (h2 : Has P w K mg base "_law_are_moves" ["_law_found"] sAreMoves 2 (spAreMoves K)) : FnOk P w K mg base CX0 3 f fd ["_law_found", "_law_due"] (spAlike K) := by
  obtain ⟨fw, dfw, Aw, Gw⟩ := h1
  obtain ⟨fm, dfm, Am, Gm⟩ := h2
  refine R.ok F scAlike (fun vs H Q E h => ?_) (fun cdv A outer s H vs Q E hr h => ?_)
  · obtain ⟨_, _, rfl, _⟩ := h
    rfl
  · obtain ⟨x, y, rfl, hl, q⟩ := h
    have hr1 := hr
    have hr2 := hr.mono (show 1 ≤ 2 by decide)
    have hu60 := Nat.lt_of_le_of_lt (Nat.add_le_add_left (by decide : 60 ≤ 64) _) hr.units
    have q0 := q H fun _ _ e => e
    cases hl with
    | str z =>
      refine ⟨_, (pss_cons (ps_if (pw_or (pt_cmp (pc_isN (pv 1))) (pw_or1 (pt_val (pe_callB call_isinst (by rfl) B.isinstance (by rfl) (pa_nm (pv 1) (pa_nm (pe_bltn (v := .ty "str") (by rfl) B.str (by rfl) rfl) pa_nil)))))).pt (pss_one (ps_ret (pe_and (pe_cmpR op_eq (pe_callB call_isinst (by rfl) B.isinstance (by rfl) (pa_nm (pv 0) (pa_nm (pe_bltn (v := .ty "str") (by rfl) B.str (by rfl) rfl) pa_nil))) (pe_callB call_isinst (by rfl) B.isinstance (by rfl) (pa_nm (pv 1) (pa_nm (pe_bltn (v := .ty "str") (by rfl) B.str (by rfl) rfl) pa_nil))) (nomark _)) (pe_one (pe_cmpR op_eq (pv 0) (pv 1) (nomark _)))))) pss_nil) <| pss_never), ?_⟩
      refine ⟨_, rfl, _, rfl, iteF ⟨_, rfl, _, _, _, _, rfl, .str z, kit_eq _ _, true, rfl, iteT ?_⟩⟩
      refine ⟨_, rfl, _, _, _, _, rfl, .str z, kit_eq _ _, _, rfl, _, _, _, _, rfl, .str z, kit_eq _ _, rfl, _, rfl, iteT ⟨_, rfl, _, rfl, rfl, ?_⟩⟩
      rw [decide_eq_true (rfl : V.str z = V.str z)]
      exact q0
    | non =>
      refine ⟨_, (pss_cons (ps_if (pw_or (pt_cmp (pc_isN (pv 1))) (pw_or1 (pt_val (pe_callB call_isinst (by rfl) B.isinstance (by rfl) (pa_nm (pv 1) (pa_nm (pe_bltn (v := .ty "str") (by rfl) B.str (by rfl) rfl) pa_nil)))))).pt (pss_one (ps_ret (pe_and (pe_cmpR op_eq (pe_callB call_isinst (by rfl) B.isinstance (by rfl) (pa_nm (pv 0) (pa_nm (pe_bltn (v := .ty "str") (by rfl) B.str (by rfl) rfl) pa_nil))) (pe_callB call_isinst (by rfl) B.isinstance (by rfl) (pa_nm (pv 1) (pa_nm (pe_bltn (v := .ty "str") (by rfl) B.str (by rfl) rfl) pa_nil))) (nomark _)) (pe_one (pe_cmpR op_eq (pv 0) (pv 1) (nomark _)))))) pss_nil) <| pss_never), ?_⟩
      refine ⟨_, rfl, _, rfl, iteT (iteT ?_)⟩
      refine ⟨_, rfl, _, _, _, _, rfl, .non, kit_none_str _, _, rfl, _, _, _, _, rfl, .non, kit_none_str _, rfl, _, rfl, iteT ⟨_, rfl, _, rfl, rfl, ?_⟩⟩
      rw [decide_eq_true (rfl : V.non = V.non)]
      exact q0
    | int i =>
      refine ⟨_, (pss_cons (ps_if (pw_or (pt_cmp (pc_isN (pv 1))) (pw_or1 (pt_val (pe_callB call_isinst (by rfl) B.isinstance (by rfl) (pa_nm (pv 1) (pa_nm (pe_bltn (v := .ty "str") (by rfl) B.str (by rfl) rfl) pa_nil)))))).pt pss_never pss_nil) <| pss_cons (ps_if (pt_val (pe_callB call_isinst (by rfl) B.isinstance (by rfl) (pa_nm (pv 1) (pa_nm (pe_bltn (v := .ty "list") (by rfl) B.list (by rfl) rfl) pa_nil)))) pss_never pss_nil) <| (pss_one (ps_ret (pe_and (pe_call Gw hr2 (by rfl) Aw.mgf Aw.F.kp Aw.b .nil pass0 (pa_nm (pv 0) pa_nil)) (pe_one (pe_cmpR op_eq (pv 0) (pv 1) (nomark _))))))), ?_⟩
      refine ⟨_, rfl, _, rfl, iteF ⟨_, rfl, _, _, _, _, rfl, .int i, kit_int_str _, false, rfl, iteF ?_⟩⟩
      refine ⟨_, rfl, _, _, _, _, rfl, .int i, kit_int_list _, false, rfl, iteF ?_⟩
      refine ⟨_, rfl, i, rfl, _, rfl, iteT ⟨_, rfl, _, rfl, rfl, ?_⟩⟩
      rw [decide_eq_true (rfl : V.int i = V.int i)]
      exact q0
    | mov a1 a2 a3 a4 =>
      refine ⟨_, (pss_cons (ps_if (pw_or (pt_cmp (pc_isN (pv 1))) (pw_or1 (pt_val (pe_callB call_isinst (by rfl) B.isinstance (by rfl) (pa_nm (pv 1) (pa_nm (pe_bltn (v := .ty "str") (by rfl) B.str (by rfl) rfl) pa_nil)))))).pt pss_never pss_nil) <| pss_cons (ps_if (pt_val (pe_callB call_isinst (by rfl) B.isinstance (by rfl) (pa_nm (pv 1) (pa_nm (pe_bltn (v := .ty "list") (by rfl) B.list (by rfl) rfl) pa_nil)))) (pss_one (ps_ret (pe_and (pe_call Gm hr1 (by rfl) Am.mgf Am.F.kp Am.b .nil pass0 (pa_nm (pv 0) pa_nil)) (pe_one (pe_cmpR (op_eqD hu60) (pv 0) (pv 1) (nomark _)))))) pss_nil) <| pss_never), ?_⟩
      refine ⟨_, rfl, _, rfl, iteF ⟨_, rfl, _, _, _, _, rfl, .lst a3, kit_list_str _, false, rfl, iteF ?_⟩⟩
      refine ⟨_, rfl, _, _, _, _, rfl, .lst a3, kit_eq _ _, true, rfl, iteT ?_⟩
      refine ⟨_, rfl, _, _, _, rfl, a1, a2, fun H1 s1 => ⟨_, rfl, iteT ⟨_, rfl, _, rfl, eq_same (d := .list (_root_.List.map movP _)) (n := 4) (.lst (SqL.of (s1 _ _ a1)) (a2.same s1).dats) (.lst (SqL.of (s1 _ _ a3)) (a4.same s1).dats) (nice_list movP_nice _) (by decide) (q H1 s1)⟩⟩⟩
end
end RK

set_option autoImplicit false
set_option maxRecDepth 100000
set_option linter.all false
set_option Elab.async false
set_option maxHeartbeats 8000000
namespace RK
open PySem
open L2 hiding pv pe_bltn pe_int pe_bl pe_non pe_str pe_lst pe_tup pe_op pe_ix pe_callB pe_callTy pe_call pe_cmp pe_cmpR pe_and pe_one pe_not pe_slice pe_dget pe_dget1 pe_dnewK pe_bm pt_cmp pt_cmpR pt_not pt_val pw_or pw_or1 pw_and pw_and1 pa_nil pa_cons pa_int pa_nm pa_bin pa_sub pa_call pa_tup pss_cons pss_one pss_nil ps_set ps_if ps_for ps_ret ps_expr ps_dput pg_name pg_tup pgs_nil pgs_cons pi_list pi_tup pi_range1 po_none po_some pc_isN pe_comp ps_setC pf_nil pf_one pc_din pc_dnotin pc_notN pe_dget2 pe_dpop1 pe_un pe_fld ps_fld pi_range2 pe_meth pe_meth0 pe_make pe_sortItems PE PT PW PA PS PSs PC PG PGs PI PO PF
open R hiding ok
section
variable {P : Program} {w : World} {K : PySem.W.Frag} {mg : Str → Option Value} {base : Heap} {f : Addr} {fd : FuncData}
def Tell.deed : Tell → Deed
  | .put n => .put n
  | .come k s => .come k s.toNat
  | .leave k => .leave k
  | .drop n => .drop n
  | .wher n => .wher n
def Tell.as (kvs : List (Int × Nat)) (names : List Int) (t : Tell) : Deed := match t.rf kvs names with
  | some r => .refu t r
  | none => t.deed
theorem as_some {kvs : List (Int × Nat)} {names : List Int} {t : Tell} {r : Rf} (h : t.rf kvs names = some r) : t.as kvs names = .refu t r := by
  unfold Tell.as
  rw [h]
theorem as_none {kvs : List (Int × Nat)} {names : List Int} {t : Tell} (h : t.rf kvs names = none) : t.as kvs names = t.deed := by
  unfold Tell.as
  rw [h]
theorem rf_come {kvs : List (Int × Nat)} {names : List Int} {k s : Int} (h : (Tell.come k s).rf kvs names = none) : k ∉ kvs.map (·.1) ∧ 1 ≤ s := by
  replace h : (if k ∈ kvs.map (·.1) then some Rf.kt else if s < 1 then some Rf.ns else none) = none := h
  by_cases hk : k ∈ kvs.map (·.1)
  · rw [if_pos hk] at h
    cases h
  · rw [if_neg hk] at h
    by_cases hs : s < 1
    · rw [if_pos hs] at h
      cases h
    · exact ⟨hk, by omega⟩
theorem ite_none {α : Type} {c : Prop} [Decidable c] {a : α} (h : (if c then some a else none) = none) : ¬ c := fun z => by
  rw [if_pos z] at h
  cases h
theorem ite_none' {α : Type} {c : Prop} [Decidable c] {a : α} (h : (if c then none else some a) = none) : c := by
  by_cases z : c
  · exact z
  · rw [if_neg z] at h
    cases h
theorem as_vs (kvs : List (Int × Nat)) (names : List Int) (t : Tell) : (t.as kvs names).vs = t.vs := by
  cases e : t.rf kvs names with
  | some r => rw [as_some e]; rfl
  | none =>
    rw [as_none e]
    cases t with
    | come k s =>
      have h := (rf_come e).2
      show [V.str "come", V.int k, V.int ((s.toNat : Nat) : Int)] = [V.str "come", V.int k, V.int s]
      rw [Int.toNat_of_nonneg (by omega)]
    | _ => rfl
theorem as_good {kvs : List (Int × Nat)} {names : List Int} {t : Tell} (f : t.fine) (hf : kvs.length + names.length + 1 ≤ 14) : (t.as kvs names).good kvs names := by
  cases e : t.rf kvs names with
  | some r =>
    rw [as_some e]
    exact e
  | none =>
    rw [as_none e]
    cases t with
    | put n => exact ⟨ite_none (show (if n ∈ names then some Rf.nt else none) = none from e), f, by omega, by omega⟩
    | come k s =>
      obtain ⟨h1, h2⟩ := rf_come e
      obtain ⟨f1, f2⟩ := f
      exact ⟨h1, ⟨f1, by omega, by omega⟩, by omega, by omega⟩
    | leave k =>
      have h : k ∈ kvs.map (·.1) := ite_none' (show (if k ∈ kvs.map (·.1) then none else some Rf.nk) = none from e)
      exact h
    | drop n =>
      have h : n ∈ names := ite_none' (show (if n ∈ names then none else some Rf.nn) = none from e)
      exact h
    | wher n =>
      have h : n ∈ names := ite_none' (show (if n ∈ names then none else some Rf.nn) = none from e)
      exact h
def asAll (kvs : List (Int × Nat)) (names : List Int) : List Tell → List Deed
  | [] => []
  | t :: r => t.as kvs names :: asAll ((t.as kvs names).kv kvs) ((t.as kvs names).nm names) r
theorem asAll_len : ∀ (ts : List Tell) {kvs : List (Int × Nat)} {names : List Int}, (asAll kvs names ts).length = ts.length
  | [], _, _ => rfl
  | t :: r, _, _ => congrArg Nat.succ (asAll_len r)
theorem both_len (kvs : List (Int × Nat)) (names : List Int) (d : Deed) : (d.kv kvs).length + (d.nm names).length ≤ kvs.length + names.length + 1 := by
  cases d with
  | put n =>
    show kvs.length + (names ++ [n]).length ≤ _
    rw [List.length_append, List.length_singleton]
    omega
  | come k s =>
    show (kvs ++ [(k, s)]).length + names.length ≤ _
    rw [List.length_append, List.length_singleton]
    omega
  | leave k =>
    have := List.length_filter_le (fun p : Int × Nat => !decide (p.1 = k)) kvs
    show (kvs.filter fun p => !decide (p.1 = k)).length + names.length ≤ _
    omega
  | drop n =>
    have := List.length_erase_le (a := n) (l := names)
    show kvs.length + (names.erase n).length ≤ _
    omega
  | wher n => exact Nat.le_succ _
  | refu t r => exact Nat.le_succ _
theorem asAll_good : ∀ (ts : List Tell) (kvs : List (Int × Nat)) (names : List Int), (∀ t ∈ ts, t.fine) → kvs.length + names.length + ts.length ≤ 14 → goodAll kvs names (asAll kvs names ts)
  | [], _, _, _, _ => trivial
  | t :: r, kvs, names, hf, hl => by
    rw [List.length_cons] at hl
    have h := both_len kvs names (t.as kvs names)
    exact ⟨as_good (hf t List.mem_cons_self) (by omega), asAll_good r _ _ (fun x hx => hf x (List.mem_cons_of_mem _ hx)) (by omega)⟩
def ToldT (H : Hp) (ts : List Addr) (tells : List Tell) : Prop := Paired (fun t (tt : Tell) => H t = some (.tup tt.vs)) ts tells
theorem ToldT.same {H H' : Hp} {ts : List Addr} {tells : List Tell} (h : ToldT H ts tells) (s : Same H H') : ToldT H' ts tells := Paired.mapP h fun _ _ e => s _ _ e
theorem ToldT.upd {H : Hp} {ts : List Addr} {tells : List Tell} {p : Addr} {o : HO} (h : ToldT H ts tells) (n : ∀ xs, H p ≠ some (.tup xs)) : ToldT (L2.upd H p o) ts tells := Paired.mapP h fun b d e => by
  rw [upd_ne (fun z => n _ (by rw [← z]; exact e))]
  exact e
theorem ToldT.snoc {H : Hp} {ts : List Addr} {tells : List Tell} {b : Addr} {d : Tell} (t : ToldT H ts tells) (h : H b = some (.tup d.vs)) : ToldT H (ts ++ [b]) (tells ++ [d]) := Paired.snoc t h
theorem told_as {H : Hp} : ∀ {ts : List Addr} {tells : List Tell} {kvs : List (Int × Nat)} {names : List Int}, ToldT H ts tells → Told H ts (asAll kvs names tells)
  | _, _, _, _, .nil => .nil
  | _, _, _, _, .cons h r => .cons (by rw [as_vs]; exact h) (told_as r)
def tellP : Tell → PyData
  | .put n => .tuple [.str "put", .int n]
  | .come k s => .tuple [.str "come", .int k, .int s]
  | .leave k => .tuple [.str "leave", .int k]
  | .drop n => .tuple [.str "drop", .int n]
  | .wher n => .tuple [.str "where", .int n]
theorem nice_t2 {x : Str} (h : PyData.canLay0 (.str x) = true) (n : Int) : Nice 3 (.tuple [.str x, .int n]) := by
  have h' := h
  simp only [PyData.canLay0] at h'
  exact ⟨by simp [PyData.canLay0, PyData.canLayAll0, h'], by simp [PyData.depth, PyData.depthAll], by simp [PyData.eqv, PyData.eqvAll]⟩
theorem nice_t3 {x : Str} (h : PyData.canLay0 (.str x) = true) (n m : Int) : Nice 3 (.tuple [.str x, .int n, .int m]) := by
  have h' := h
  simp only [PyData.canLay0] at h'
  exact ⟨by simp [PyData.canLay0, PyData.canLayAll0, h'], by simp [PyData.depth, PyData.depthAll], by simp [PyData.eqv, PyData.eqvAll]⟩
theorem tellP_nice (t : Tell) : Nice 3 (tellP t) := by
  cases t with
  | put n => exact nice_t2 (by decide +kernel) n
  | come k s => exact nice_t3 (by decide +kernel) k s
  | leave k => exact nice_t2 (by decide +kernel) k
  | drop n => exact nice_t2 (by decide +kernel) n
  | wher n => exact nice_t2 (by decide +kernel) n
theorem tell_dat {H : Hp} {a : Addr} {t : Tell} (h : H a = some (.tup t.vs)) : Dat K H (.ref a) (tellP t) := by
  cases t with
  | come k s => exact .tup (SqT.of h) (.cons (.str _) (.cons (.int _) (.cons (.int _) .nil)))
  | _ => exact .tup (SqT.of h) (.cons (.str _) (.cons (.int _) .nil))
theorem ToldT.dats {H : Hp} : ∀ {ts : List Addr} {tells : List Tell}, ToldT H ts tells → Dats K H (ts.map V.ref) (tells.map tellP)
  | _, _, .nil => .nil
  | _, _, .cons h r => .cons (tell_dat h) (ToldT.dats r)
theorem merge_hall (pl d l p : Addr) : mergeK [] (hallD pl d l p) = hallD pl d l p := by
  have e1 : putK ([] : List (Key × V)) (Sum.inr ("plan" : Str)) (.ref pl) = [(Sum.inr ("plan" : Str), .ref pl)] := putK_new _ valV_nil
  have e2 : putK [((Sum.inr ("plan" : Str) : Key), V.ref pl)] (Sum.inr ("keepers" : Str)) (.ref d) = [(Sum.inr ("plan" : Str), .ref pl), (Sum.inr ("keepers" : Str), .ref d)] := putK_new _ ((valV_neg hall1).trans rfl)
  have e3 : putK [((Sum.inr ("plan" : Str) : Key), V.ref pl), (Sum.inr ("keepers" : Str), .ref d)] (Sum.inr ("names" : Str)) (.ref l) = [(Sum.inr ("plan" : Str), .ref pl), (Sum.inr ("keepers" : Str), .ref d), (Sum.inr ("names" : Str), .ref l)] := putK_new _ ((valV_neg hall2).trans ((valV_neg hall3).trans rfl))
  have e4 : putK [((Sum.inr ("plan" : Str) : Key), V.ref pl), (Sum.inr ("keepers" : Str), .ref d), (Sum.inr ("names" : Str), .ref l)] (Sum.inr ("rows" : Str)) (.ref p) = hallD pl d l p := putK_new _ ((valV_neg hall4).trans ((valV_neg hall5).trans ((valV_neg hall6).trans rfl)))
  show putK (putK (putK (putK ([] : List (Key × V)) (Sum.inr ("plan" : Str)) (.ref pl)) (Sum.inr ("keepers" : Str)) (.ref d)) (Sum.inr ("names" : Str)) (.ref l)) (Sum.inr ("rows" : Str)) (.ref p) = _
  rw [e1, e2, e3, e4]
theorem pair_sorted {f : Int → Int} {ks : List Int} (h : ks.Pairwise (· ≤ ·)) : (ks.map fun k => [k, f k]).Pairwise lexLe := by
  rw [List.pairwise_map]
  refine h.imp fun {a b} hab => ?_
  show TS.lexB [b, f b] [a, f a] = false
  rw [HG.lexB_cons]
  by_cases e : b = a
  · subst e
    rw [if_pos rfl, HG.lexB_cons, if_pos rfl]
    rfl
  · rw [if_neg e]
    exact decide_eq_false (by omega)
/-- the i-th deed of good ones -/
theorem deed_at {dds : List Deed} {i : Nat} {dd : Deed} (hgood : goodAll [] [] dds) (hdd : dds[i]? = some dd) (hl : dds.length ≤ 14) : Fit (kvAll [] (dds.take i)) (nmAll [] (dds.take i)) ∧ dd.good (kvAll [] (dds.take i)) (nmAll [] (dds.take i)) ∧
    kvAll [] (dds.take (i + 1)) = dd.kv (kvAll [] (dds.take i)) ∧ nmAll [] (dds.take (i + 1)) = dd.nm (nmAll [] (dds.take i)) ∧ (kvAll [] (dds.take i)).length ≤ 14 ∧ (nmAll [] (dds.take i)).length ≤ 14 := by
  have hg : goodAll [] [] (dds.take i) ∧ dd.good (kvAll [] (dds.take i)) (nmAll [] (dds.take i)) := by
    have h : dds = dds.take (i + 1) ++ dds.drop (i + 1) := (List.take_append_drop _ _).symm
    rw [h, take_snoc hdd, List.append_assoc] at hgood
    obtain ⟨a, b⟩ := (goodAll_append _ _ _ _).mp hgood
    exact ⟨a, b.1⟩
  have l1 := kvAll_len (dds.take i) []
  have l2 := nmAll_len (dds.take i) []
  rw [List.length_take] at l1 l2
  have z1 : ([] : List (Int × Nat)).length = 0 := rfl
  have z2 : ([] : List Int).length = 0 := rfl
  exact ⟨Fit.nil.all hg.1, hg.2, by rw [take_snoc hdd, kvAll_snoc], by rw [take_snoc hdd, nmAll_snoc], by omega, by omega⟩
theorem scLaw : FnScope ["_law_script", "_law_plan", "_law_deeds", "_law_k", "_law_handed", "_law_told", "_law_hall", "_law_found", "_law_keepers", "_law_rows"] ["_law_script"] (defScope sLaw) := ⟨rfl, rfl, rfl, by decide +kernel, rfl, by decide +kernel, by decide +kernel⟩
theorem csRows : CScope (defScope sLaw) ["_law_script", "_law_plan", "_law_deeds", "_law_k", "_law_handed", "_law_told", "_law_hall", "_law_found", "_law_keepers", "_law_rows"] ["_law_keeper", "_law_keepers"] [none, some 8] (compScope (retE sLaw 12)) :=
  ⟨rfl, by decide +kernel, by decide +kernel, rfl, by decide +kernel, by decide +kernel, fun j i hj h => by
    match j, hj, h with
    | 0, _, h => cases h
    | 1, _, h => cases h; exact ⟨_, rfl, rfl, by decide +kernel⟩⟩
theorem ok_law (F : Fun K "law" "law" sLaw f fd) (B : Blt mg) (hmin : mg "min" = none)
    (ha : Has P w K mg base "_law_at" ["_law_script", "_law_k"] sAt 1 (spAt K)) (hb : Has P w K mg base "_law_plan_by" ["_law_cell"] sPlan 1 (spPlan)) (he : Has P w K mg base "_law_deed_of" ["_law_cell", "_law_k"] sDeedOf 1 (spDeedOf)) (ht : Has P w K mg base "answers" ["plan", "deeds"] sAnswers 9 (spAnswers K)) (hk : Has P w K mg base "_law_alike" ["_law_found", "_law_due"] sAlike 3 (spAlike K)) (hu : Has P w K mg base "_law_due_answer" ["_law_hall", "_law_deed"] sDue 3 (spDue K)) (hr : Has P w K mg base "ring_after" ["plan", "deeds"] sAfter 9 (spAfter K)) (hz : Has P w K mg base "_law_are_rows" ["_law_found", "_law_names"] sAreRows 2 (spAreRows K)) (hs : Has P w K mg base "_law_so" ["_law_found", "_law_meant"] sSo 3 (spSo K 3)) :
    FnOk P w K mg base CX0 10 f fd ["_law_script"] (spLaw K) := by
  obtain ⟨fa, dfa, Aa, Ga⟩ := ha
  obtain ⟨fb, dfb, Ab, Gb⟩ := hb
  obtain ⟨fe, dfe, Ae, Ge⟩ := he
  obtain ⟨ft, dft, At, Gt⟩ := ht
  obtain ⟨fk, dfk, Ak, Gk⟩ := hk
  obtain ⟨fu, dfu, Au, Gu⟩ := hu
  obtain ⟨fr, dfr, Ar, Gr⟩ := hr
  obtain ⟨fz, dfz, Az, Gz⟩ := hz
  obtain ⟨fs, dfs, As, Gs⟩ := hs
  refine R.ok F scLaw (fun vs H Q E h => ?_) (fun cdv A outer s H vs Q E hr h => ?_)
  · obtain ⟨_, _, rfl, _⟩ := h
    rfl
  · obtain ⟨a, ns, rfl, hq, hlen, q⟩ := h
    have hr1 := hr.mono (show 1 ≤ 9 by decide)
    have hr2 := hr.mono (show 2 ≤ 9 by decide)
    have hr3 := hr.mono (show 3 ≤ 9 by decide)
    have hu := hu_of hr
    have hu60 := Nat.lt_of_le_of_lt (Nat.add_le_add_left (by decide : 60 ≤ 64) _) hr.units
    refine ⟨_, (pss_cons (ps_set (i := 1) scLaw.nd rfl (Or.inl rfl) (pe_call Gb hr1 (by rfl) Ab.mgf Ab.F.kp Ab.b .nil pass0 (pa_call (pe_call Ga hr1 (by rfl) Aa.mgf Aa.F.kp Aa.b .nil pass0 (pa_nm (pv 0) (pa_int pa_nil))) pa_nil))) <|
      pss_cons (ps_set (i := 2) scLaw.nd rfl (Or.inl rfl) (pe_lst pa_nil)) <|
      pss_cons (ps_for PassesOwn.never rfl (pi_range2 rfl B.range (pa_int (pa_call (pe_callB (call_min2 rfl) (by rfl) hmin (by rfl) (pa_int (pa_call (pe_callB call_len_seq (by rfl) B.len (by rfl) (pa_nm (pv 0) pa_nil)) pa_nil))) pa_nil))) (pg_name (i := 3) scLaw.nd rfl (Or.inl rfl)) (pss_one (ps_expr (pe_bm PySem.F.plainAttrs_list PySem.F.slot_list_append PySem.F.type_list_append mt_append (pv 2) (pa_call (pe_call Ge hr1 (by rfl) Ae.mgf Ae.F.kp Ae.b .nil pass0 (pa_bin (pe_op op_add (pe_ix ix_list (pv 0) (pv 3) (fun _ _ => rfl)) (pe_op op_mul (pe_int) (pv 3))) (pa_nm (pv 3) pa_nil))) pa_nil))))) <|
      pss_any), ?_⟩
    refine ⟨_, rfl, a, ns, 0, rfl, hq, _, rfl, fun t size each H1 sm1 htn ht hz hzb he1 he2 => ?_⟩
    refine ⟨Nat.zero_le _, fun pd hpd => ?_⟩
    obtain ⟨m, hme, hm15, hmn⟩ : ∃ m : Nat, (if (((ns.map V.int).length : Nat) : Int) < 15 then (((ns.map V.int).length : Nat) : Int) else 15) = (m : Int) ∧ m ≤ 15 ∧ m ≤ ns.length := by
      rw [List.length_map]
      by_cases h15 : ((ns.length : Nat) : Int) < 15
      · exact ⟨ns.length, by rw [if_pos h15], by omega, Nat.le_refl _⟩
      · exact ⟨15, by rw [if_neg h15]; rfl, Nat.le_refl _, by omega⟩
    refine ⟨_, rfl, a, _, rfl, .inl ((sm1.tr hpd).seq hq), _, _, rfl, 1, (m : Int), by rw [hme], ⟨by decide, by decide, by omega, by omega⟩, ?_⟩
    refine for_range (fun i σ H' => ∃ (a3 : Option V) (ts : List Addr) (tells : List Tell), σ = [some (.ref a), some (.ref t), some (.ref pd), a3, none, none, none, none, none, none] ∧ Same H1 H' ∧ H' pd = some (.lst (ts.map V.ref)) ∧ ToldT H' ts tells ∧ tells.length = i ∧ ∀ x ∈ tells, x.fine)
      ⟨none, [], [], rfl, Same.upd hpd, upd_same, .nil, rfl, fun x hx => by cases hx⟩ ?_ ?_
    · rintro i σ H2 hi ⟨a3, ts, tells, rfl, sm2, hpd2, td, hlt, hfn⟩
      have hin : i + 1 < ns.length := by omega
      have hat : atI (ns.map V.int) (1 + (i : Int)) = some (V.int ns[i + 1]) := by
        rw [show (1 + (i : Int)) = ((i + 1 : Nat) : Int) by omega]
        exact atI_nat (by rw [List.getElem?_map, List.getElem?_eq_getElem hin]; rfl)
      refine ⟨_, rfl, .inl ⟨rfl, _, SqL.of hpd2⟩, _, rfl, _, rfl, a, _, _, V.int ns[i + 1], rfl, rfl, ((sm1.trans sm2).seq hq), hat, _, rfl, _, _, rfl, rfl, .inl ⟨by decide, by decide⟩, _, _, rfl, rfl, _, rfl, _, _, rfl, fun tt0 tl H3 sm3 htn3 ht3 hf3 => ?_⟩
      have hlen : ts.length = tells.length := Paired.length td
      have np : pd ≠ tt0 := ne_of_none hpd2 htn3
      refine ⟨pd, _, _, rfl, rfl, sm3 _ _ hpd2, by rw [List.length_map]; exact small_1000 (by omega), _, ts ++ [tt0], tells ++ [tl], rfl, same_set (sm2.trans sm3) hpd, ?_, ?_, by rw [List.length_append, hlt]; rfl, fun x hx => ?_⟩
      · rw [upd_same, List.map_append]
        rfl
      · exact ((td.same sm3).upd fun xs e => by rw [sm3 _ _ hpd2] at e; cases e).snoc (by rw [upd_ne np.symm]; exact ht3)
      · rcases List.mem_append.mp hx with hx | hx
        · exact hfn x hx
        · rw [List.mem_singleton.mp hx]
          exact hf3
    rintro σ H2 ⟨a3, ts, tells, rfl, sm2, hpd2, td, hlt, hfn⟩
    -- handed
    refine ⟨_, (pss_cons (ps_set (i := 4) scLaw.nd rfl (Or.inl rfl) (pe_callTy call_list_of (by rfl) B.list (by rfl) (pa_nm (pv 2) pa_nil))) <|
      pss_cons (ps_set (i := 5) scLaw.nd rfl (Or.inl rfl) (pe_call Gt hr (by rfl) At.mgf At.F.kp At.b .nil pass0 (pa_nm (pv 1) (pa_nm (pv 4) pa_nil)))) <|
      pss_any), ?_⟩
    have hlts : ts.length = tells.length := Paired.length td
    have hl14 : tells.length ≤ 14 := by omega
    obtain ⟨dds, hdds⟩ : ∃ dds, asAll [] [] tells = dds := ⟨_, rfl⟩
    have hgood : goodAll [] [] dds := by
      rw [← hdds]
      exact asAll_good tells [] [] hfn (by show 0 + 0 + _ ≤ 14; omega)
    have hdl : dds.length = tells.length := by rw [← hdds, asAll_len]
    have tdd : ∀ {H' : Hp}, ToldT H' ts tells → Told H' ts dds := fun h => by
      rw [← hdds]
      exact told_as h
    refine ⟨_, rfl, pd, _, rfl, .inl (SqL.of hpd2), fun lg hlg => ?_⟩
    have s3 : Same H2 (upd H2 lg (.lst (ts.map V.ref))) := Same.upd hlg
    have hlg3 : (upd H2 lg (.lst (ts.map V.ref))) lg = some (.lst (ts.map V.ref)) := upd_same
    have td3 := td.same s3
    have npl : pd ≠ lg := ne_of_none hpd2 hlg
    generalize upd H2 lg (.lst (ts.map V.ref)) = H3 at *
    refine ⟨_, rfl, _, rfl, t, lg, size, each, ts, dds, rfl, SqT.of (s3 _ _ (sm2 _ _ ht)), SqL.of hlg3, tdd td3, hgood, by omega, hz, by omega, fun p lx ans H4 s4 hpn hp hal an => ?_⟩
    -- told
    refine ⟨_, (pss_cons (ps_if ((pw_or (pt_not (pt_val (pe_callB call_isinst (by rfl) B.isinstance (by rfl) (pa_nm (pv 5) (pa_nm (pe_bltn (v := .ty "list") (by rfl) B.list (by rfl) rfl) pa_nil))))) (pw_or (pt_cmpR op_ne (pe_callB call_len_seq (by rfl) B.len (by rfl) (pa_nm (pv 5) pa_nil)) (pe_callB call_len_seq (by rfl) B.len (by rfl) (pa_nm (pv 2) pa_nil)) (nomark _)) (pw_or1 (pt_cmpR (op_neD hu60) (pv 4) (pv 2) (nomark _))))).pt) pss_never pss_nil) <|
      pss_any), ?_⟩
    have s34 := s3.trans s4
    have hpd4 := s34 _ _ hpd2
    have hlg4 := s4 _ _ hlg3
    have td4 := td3.same s4
    have ht4 := s34 _ _ (sm2 _ _ ht)
    refine ⟨_, rfl, _, _, _, _, rfl, .lst hp, kit_eq _ _, _, rfl, iteF ?_⟩
    refine ⟨_, rfl, p, _, rfl, .inl (SqL.of hp), _, rfl, pd, _, rfl, .inl (SqL.of hpd4), rfl, _, rfl, iteNS (by rw [hal, List.length_map, hdl, hlts]) ?_⟩
    refine ⟨_, rfl, _, rfl, ne_same (d := .list (tells.map tellP)) (n := 4) (.lst (SqL.of hlg4) td4.dats) (.lst (SqL.of hpd4) td4.dats) (nice_list tellP_nice _) (by decide) ⟨_, rfl, iteF ?_⟩⟩
    -- hall
    refine ⟨_, (pss_cons (ps_set (i := 6) scLaw.nd rfl (Or.inl rfl) (pe_disp4 (pe_str) (pv 1) (pe_str) (pe_dnewK) (pe_str) (pe_lst pa_nil) (pe_str) (pe_lst pa_nil))) <|
      pss_any), ?_⟩
    refine fun h hh => ⟨_, rfl, fun d hd => ⟨Nat.zero_le _, fun l hl => ⟨Nat.zero_le _, fun p0 hp0 => ?_⟩⟩⟩
    have n1 : h ≠ d := ne_of_none upd_same hd
    have n2 : h ≠ l := ne_of_none (Same.upd hd _ _ upd_same) hl
    have n3 : d ≠ l := ne_of_none upd_same hl
    have n4 : h ≠ p0 := ne_of_none (Same.upd hl _ _ (Same.upd hd _ _ upd_same)) hp0
    have n5 : d ≠ p0 := ne_of_none (Same.upd hl _ _ upd_same) hp0
    have n6 : l ≠ p0 := ne_of_none upd_same hp0
    refine ⟨by rw [upd_ne n4, upd_ne n2, upd_ne n1, upd_same], hallD t d l p0, rfl, by show 4 ≤ 15; decide, ?_⟩
    rw [merge_hall]
    have hl4 : H4 l = none := by rw [upd_ne n3.symm, upd_ne n2.symm] at hl; exact hl
    have s5 : Same H4 (upd (upd (upd (upd (upd H4 h (.dK [])) d (.dK [])) l (.lst [])) p0 (.lst [])) h (.dK (hallD t d l p0))) :=
      same_set ((((Same.upd hh).tr hd).tr hl).tr hp0) hh
    have S5 : HAt K (upd (upd (upd (upd (upd H4 h (.dK [])) d (.dK [])) l (.lst [])) p0 (.lst [])) h (.dK (hallD t d l p0))) h t d l p0 size each [] [] [] [] :=
      ⟨upd_same, SqT.of (s5 _ _ ht4), by rw [upd_ne n1.symm, upd_ne n5, upd_ne n3, upd_same]; rfl, by rw [upd_ne n2.symm, upd_ne n6, upd_same]; rfl, by rw [upd_ne n4.symm, upd_same]; rfl, .nil, n6⟩
    generalize upd (upd (upd (upd (upd H4 h (.dK [])) d (.dK [])) l (.lst [])) p0 (.lst [])) h (.dK (hallD t d l p0)) = H5 at *
    have D0 : IsDeal size each [] [] [] := isDeal_nil
    have e0 : dealOf size each [] [] = [] := D0.eq.symm
    -- each
    refine ⟨_, (pss_cons (ps_for PassesOwn.never rfl (pi_range1 rfl B.range (pa_call (pe_callB call_len_seq (by rfl) B.len (by rfl) (pa_nm (pv 2) pa_nil)) pa_nil)) (pg_name (i := 3) scLaw.nd rfl (Or.inl rfl)) (pss_one (ps_if (pt_not (pt_val (pe_call Gk hr3 (by rfl) Ak.mgf Ak.F.kp Ak.b .nil pass0 (pa_sub (pe_ix ix_list (pv 5) (pv 3) (fun _ _ => rfl)) (pa_call (pe_call Gu hr3 (by rfl) Au.mgf Au.F.kp Au.b .nil pass0 (pa_nm (pv 6) (pa_sub (pe_ix ix_list (pv 2) (pv 3) (fun _ _ => rfl)) pa_nil))) pa_nil))))) pss_never pss_nil))) <|
      pss_any), ?_⟩
    have kL : ∀ {H' : Hp} {b : Addr} {xs : List V}, Kept h d l H5 H' → H4 b = some (.lst xs) → H' b = some (.lst xs) := fun {H' b xs} kp e =>
      kp _ _ (fun z => by rw [z, hh] at e; cases e) (fun z => by have := s5 _ _ e; rw [z, S5.dc] at this; cases this) (fun z => by rw [z, hl4] at e; cases e) (s5 _ _ e)
    have kT : ∀ {H' : Hp} {b : Addr} {xs : List V}, Kept h d l H5 H' → H4 b = some (.tup xs) → H' b = some (.tup xs) := fun {H' b xs} kp e =>
      kp _ _ (fun z => by rw [z, hh] at e; cases e) (fun z => by have := s5 _ _ e; rw [z, S5.dc] at this; cases this) (fun z => by rw [z, hl4] at e; cases e) (s5 _ _ e)
    have kD : ∀ {H' : Hp}, Kept h d l H5 H' → ToldT H' ts tells := fun kp => Paired.mapP td4 fun _ _ e => kT kp e
    refine ⟨_, rfl, pd, _, rfl, .inl (SqL.of (s5 _ _ hpd4)), (((ts.map V.ref).length : Nat) : Int), rfl, by omega, by rw [List.length_map]; omega, ?_⟩
    refine for_range (fun i σ H' => ∃ (a3 : Option V) (p' : Addr) (bs : List Addr), σ = [some (.ref a), some (.ref t), some (.ref pd), a3, some (.ref lg), some (.ref p), some (.ref h), none, none, none] ∧ Kept h d l H5 H' ∧
        HAt K H' h t d l p' size each (kvAll [] (dds.take i)) (nmAll [] (dds.take i)) bs (dealOf size each (kvAll [] (dds.take i)) (nmAll [] (dds.take i))) ∧ IsDeal size each (kvAll [] (dds.take i)) (nmAll [] (dds.take i)) (dealOf size each (kvAll [] (dds.take i)) (nmAll [] (dds.take i))))
      ⟨_, p0, [], rfl, fun _ _ _ _ _ e => e, ?_, ?_⟩ ?_ ?_
    · rw [List.take_zero]
      show HAt K _ h t d l p0 size each [] [] [] (dealOf size each [] [])
      rw [e0]
      exact S5
    · rw [List.take_zero]
      show IsDeal size each [] [] (dealOf size each [] [])
      rw [e0]
      exact D0
    · rintro i σ H6 hi ⟨a3, p', bs, rfl, kp, S, D⟩
      rw [List.length_map, Int.toNat_natCast] at hi
      obtain ⟨dd, hdd⟩ : ∃ dd, dds[i]? = some dd := ⟨_, List.getElem?_eq_getElem (by omega)⟩
      obtain ⟨tt, htt⟩ : ∃ tt, ts[i]? = some tt := ⟨_, List.getElem?_eq_getElem hi⟩
      obtain ⟨v, hv⟩ : ∃ v, ans[i]? = some v := ⟨_, List.getElem?_eq_getElem (by omega)⟩
      obtain ⟨dd', hdd', htv⟩ := (tdd (kD kp)).at htt
      rw [hdd] at hdd'
      cases hdd'
      obtain ⟨av, _⟩ := an i v dd hv hdd
      obtain ⟨ft, hg, e1, e2, lk, ln⟩ := deed_at hgood hdd (by omega : dds.length ≤ 14)
      rw [e1, e2]
      refine ⟨_, rfl, _, rfl, p, _, _, v, rfl, rfl, SqL.of (kL kp hp), by rw [Int.zero_add]; exact atI_nat hv, _, rfl, _, rfl, _, rfl, pd, _, _, V.ref tt, rfl, rfl, SqL.of (kL kp hpd4), by rw [Int.zero_add]; exact atI_nat (by rw [List.getElem?_map, htt]; rfl), h, tt, t, d, l, p', size, each, _, _, bs, dd, rfl, htv, S, D, hz, by omega, ft, by omega, by omega, hg, fun H7 p7 bs7 v7 S7 D7 k7 av7 => ?_⟩
      have av' : AnsOk size each (kvAll [] (dds.take i)) (nmAll [] (dds.take i)) H7 v dd := by
        cases dd with
        | wher n => exact av
        | refu t r => exact av
        | _ =>
          obtain ⟨pm, us, rfl, g1, g2⟩ := av
          exact ⟨pm, us, rfl, kL (kp.trans k7) g1, Paired.mapP g2 fun _ _ e => kT (kp.trans k7) e⟩
      exact ⟨_, _, rfl, av'.lik av7, fun H8 s8 => ⟨_, rfl, iteF ⟨_, p7, bs7, rfl, (kp.trans k7).trans (Kept.of s8), S7.same s8, D7⟩⟩⟩
    rintro σ H6 ⟨a3, p', bs, rfl, kp, S, D⟩
    rw [List.length_map, Int.toNat_natCast, hlts, ← hdl, List.take_length] at S D
    -- found
    refine ⟨_, (pss_cons (ps_set (i := 7) scLaw.nd rfl (Or.inl rfl) (pe_call Gr hr (by rfl) Ar.mgf Ar.F.kp Ar.b .nil pass0 (pa_nm (pv 1) (pa_nm (pv 4) pa_nil)))) <|
      pss_cons (ps_if ((pw_or (pt_not (pt_val (pe_callB call_isinst (by rfl) B.isinstance (by rfl) (pa_nm (pv 7) (pa_nm (pe_bltn (v := .ty "tuple") (by rfl) B.tuple (by rfl) rfl) pa_nil))))) (pw_or (pt_cmpR op_ne (pe_callB call_len_seq (by rfl) B.len (by rfl) (pa_nm (pv 7) pa_nil)) (pe_int) (nomark _)) (pw_or1 (pt_cmpR (op_neD hu60) (pv 4) (pv 2) (nomark _))))).pt) pss_never pss_nil) <|
      pss_any), ?_⟩
    have td6 := kD kp
    refine ⟨_, rfl, _, rfl, t, lg, size, each, ts, dds, rfl, S.tp, SqL.of (kL kp hlg4), tdd td6, hgood, by omega, hz, by omega, fun u p3 l3 b3 c3 ds3 H7 s7 hun hu3 hp3 rs3 D3 hl3 tc3 pm3 srt3 => ?_⟩
    have td7 := td6.same s7
    have hlg7 := s7 _ _ (kL kp hlg4)
    have hpd7 := s7 _ _ (kL kp hpd4)
    have S7 := S.same s7
    have ft := Fit.nil.all hgood
    refine ⟨_, rfl, _, _, _, _, rfl, .tup hu3, kit_eq _ _, _, rfl, iteF ?_⟩
    refine ⟨_, rfl, u, _, rfl, .inr (SqT.of hu3), rfl, _, rfl, iteNS rfl ?_⟩
    refine ⟨_, rfl, _, rfl, ne_same (d := .list (tells.map tellP)) (n := 4) (.lst (SqL.of hlg7) td7.dats) (.lst (SqL.of hpd7) td7.dats) (nice_list tellP_nice _) (by decide) ⟨_, rfl, iteF ?_⟩⟩
    -- rows
    refine ⟨_, (pss_cons (ps_if ((pw_or (pt_not (pt_val (pe_call Gz hr2 (by rfl) Az.mgf Az.F.kp Az.b .nil pass0 (pa_sub (pe_ix ix_tup (pv 7) (pe_int) (fun _ _ => rfl)) (pa_sub (pe_dget hu (pv 6) (pe_str) (fun _ _ => rfl)) pa_nil))))) (pw_or1 (pt_cmpR (op_neD hu60) (pe_ix ix_tup (pv 7) (pe_int) (fun _ _ => rfl)) (pe_dget hu (pv 6) (pe_str) (fun _ _ => rfl)) (nomark _)))).pt) pss_never pss_nil) <|
      pss_any), ?_⟩
    obtain ⟨kvs, hkvs⟩ : ∃ kvs, kvAll [] dds = kvs := ⟨_, rfl⟩
    obtain ⟨names, hnames⟩ : ∃ names, nmAll [] dds = names := ⟨_, rfl⟩
    have lk := kvAll_len dds []
    have ln := nmAll_len dds []
    rw [hkvs, hnames] at S7 D rs3 ft
    rw [hkvs] at lk pm3
    rw [hnames] at ln
    have lk14 : kvs.length ≤ 14 := by
      have : ([] : List (Int × Nat)).length = 0 := rfl
      omega
    have ln14 : names.length ≤ 14 := by
      have : ([] : List Int).length = 0 := rfl
      omega
    obtain ⟨n1', μ, eD, hpm1, hsrt1, _⟩ := id D
    have rs3' : Rows H7 b3 (n1'.map fun n => (n, μ n)) := by
      rw [← eD]
      exact rs3
    refine ⟨_, rfl, u, _, 0, V.ref p3, rfl, rfl, SqT.of hu3, rfl, _, rfl, h, _, rfl, S7.gN, p3, l, b3, names, n1', μ, rfl, hp3, rs3', SqL.of S7.nm, hpm1, hsrt1, by omega, fun H8 s8 => ⟨_, rfl, iteF ?_⟩⟩
    have S8 := S7.same s8
    refine ⟨_, rfl, u, _, 0, V.ref p3, rfl, rfl, SqT.of (s8 _ _ hu3), rfl, _, rfl, h, _, rfl, S8.gR, ne_same (d := .list ((dealOf size each kvs names).map rowP)) (n := 4) (.lst (SqL.of (s8 _ _ hp3)) (rs3.same s8).dats) (.lst (SqL.of S8.rw) S8.rs.dats) (nice_list rowP_nice _) (by decide) ⟨_, rfl, iteF ?_⟩⟩
    -- keepers
    refine ⟨_, (pss_cons (ps_set (i := 8) scLaw.nd rfl (Or.inr rfl) (pe_dget hu (pv 6) (pe_str) (fun _ _ => rfl))) <|
      pss_cons (ps_setC (i := 9) csRows rfl rfl rfl scLaw.nd rfl rfl (pi_list (pe_callB call_sortedI (by rfl) B.sorted (by rfl) (pa_call (pe_callTy (call_listD rfl) (by rfl) B.list (by rfl) (pa_nm (pv 8) pa_nil)) pa_nil))) (fun cl s₀ H₀ fp => pg_name (i := 0) csRows.nd rfl (Or.inl rfl) (Or.inr rfl)) (fun cl s₀ H₀ fp => pf_nil) (fun cl s₀ H₀ fp => pe_tup (pa_nm (pv 0) (pa_sub (pe_dget hu (pv 1) (pv 0) (fun _ _ => rfl)) pa_nil))) (by rfl)) <|
      pss_any), ?_⟩
    refine ⟨_, rfl, h, _, rfl, S8.gK, ?_⟩
    refine ⟨_, rfl, d, keepD kvs, rfl, .inl S8.dc, fun l1 hl1 => ?_⟩
    rw [keys_ints]
    refine ⟨l1, kvs.map (·.1), rfl, SqL.of upd_same, by rw [List.length_map]; omega, fun l2 ks hl2 hpm hsrt => ?_⟩
    have s9 : Same H8 (upd (upd H8 l1 (.lst ((kvs.map (·.1)).map V.int))) l2 (.lst (ks.map V.int))) := (Same.upd hl1).tr hl2
    have hl29 : (upd (upd H8 l1 (.lst ((kvs.map (·.1)).map V.int))) l2 (.lst (ks.map V.int))) l2 = some (.lst (ks.map V.int)) := upd_same
    generalize upd (upd H8 l1 (.lst ((kvs.map (·.1)).map V.int))) l2 (.lst (ks.map V.int)) = H9 at *
    have S9 := S8.same s9
    refine ⟨l2, rfl, ⟨_, SqL.of hl29⟩, fun y hy => ?_⟩
    refine comp_list (xs := ks.map V.int) (fun i σ H' => ∃ (v0 : Option V) (ys : List Addr), σ = [v0, some (.ref d)] ∧ Same H9 H' ∧ H' y = some (.lst (ys.map V.ref)) ∧ Tups H' ys ((ks.take i).map fun k => [k, (shareOf kvs k : Int)]))
      ⟨none, [], rfl, Same.upd hy, upd_same, .nil⟩ (fun i σ H' _ ⟨_, _, _, sm, _⟩ => SqL.of (sm _ _ hl29)) ?_ ?_
    · rintro j x σ H' hj ⟨v0, ys, rfl, sm, hy', ty⟩
      obtain ⟨k, hk, hkin, hjl, rfl⟩ := int_at hj
      obtain ⟨pr, hpr, epr⟩ := List.mem_map.mp (hpm.mem_iff.mp hkin)
      have hg := DGet.k (k := Sum.inl k) (sm _ _ S9.dc)
      rw [← epr, keepD_get ft.ok.1 hpr, ← shareOf_mem ft.ok.1 hpr, epr] at hg
      refine ⟨_, rfl, _, rfl, _, rfl, d, _, rfl, hg, by show 2 ≤ sizeLine; decide, fun tt htt => ?_⟩
      have nyt : y ≠ tt := ne_of_none hy' htt
      have hyl : ys.length ≤ j := by
        rw [ty.length, List.length_map, List.length_take]
        omega
      have hkl : ks.length ≤ 14 := by
        rw [hpm.length_eq, List.length_map]
        exact lk14
      refine ⟨ys.map V.ref, by rw [upd_ne nyt]; exact hy', by rw [List.length_map]; exact small_1000 (by omega), _, ys ++ [tt], rfl, same_set (sm.tr htt) hy, ?_, ?_⟩
      · rw [upd_same, List.map_append]
        rfl
      · rw [take_snoc hk, List.map_append]
        refine ((ty.fresh htt).upd fun xs e => by rw [upd_ne nyt, hy'] at e; cases e).snoc ?_
        rw [upd_ne nyt.symm, upd_same]
        rfl
    rintro σ H' ⟨v0, ys, rfl, sm, hy', ty⟩
    rw [List.length_map, List.take_length] at ty
    -- so
    refine ⟨_, (pss_one (ps_ret (pe_call Gs hr3 (by rfl) As.mgf As.F.kp As.b .nil pass0 (pa_sub (pe_ix ix_tup (pv 7) (pe_int) (fun _ _ => rfl)) (pa_nm (pv 9) pa_nil))))), ?_⟩
    have e3 : ds3 = ks.map fun k => [k, (shareOf kvs k : Int)] := by
      refine sorted_eq (pm3.trans ?_) srt3 (pair_sorted hsrt)
      refine List.Perm.trans ?_ (hpm.map fun k => [k, (shareOf kvs k : Int)]).symm
      rw [List.map_map]
      refine List.Perm.of_eq (List.map_congr_left fun p hp => ?_)
      show [p.1, (p.2 : Int)] = [p.1, (shareOf kvs p.1 : Int)]
      rw [shareOf_mem ft.ok.1 hp]
    rw [e3] at tc3
    have s79 := s8.trans (s9.trans sm)
    have hu9 := s79 _ _ hu3
    refine ⟨_, rfl, u, _, 1, V.ref l3, rfl, rfl, SqT.of hu9, rfl, _, rfl, _, _, rfl, .inr ⟨l3, y, _, _, rfl, rfl, .inl ⟨s79 _ _ hl3, hy'⟩, by rw [List.length_map, List.length_map, tc3.length, ty.length], ?_, fun j x z hx hz' => (tc3.same s79).alike ty (fun x hx => ?_) hx hz'⟩, fun H'' _ => q _⟩
    · rw [List.length_map, tc3.length, List.length_map, hpm.length_eq, List.length_map]
      omega
    · obtain ⟨k, _, rfl⟩ := List.mem_map.mp hx
      show 2 ≤ 1000
      decide
end
end RK

set_option autoImplicit false
set_option maxRecDepth 100000
namespace RK
open PySem L2
noncomputable def o_3 (P : Params) : Obj := { cls := Value.type "dict", data := Data.dict #[{ hash := PyData.keyHash P (Str.ofString "__name__"), key := Value.str (Str.ofString "__name__") 165, val := Value.str (Str.ofString "law_ringdeal_k08_plain_story") 496 }, { hash := PyData.keyHash P (Str.ofString "__doc__"), key := Value.str (Str.ofString "__doc__") 166, val := Value.none }, { hash := PyData.keyHash P (Str.ofString "__package__"), key := Value.str (Str.ofString "__package__") 167, val := Value.none }, { hash := PyData.keyHash P (Str.ofString "__loader__"), key := Value.str (Str.ofString "__loader__") 168, val := Value.builtin "__main__.__loader__#opaque" }, { hash := PyData.keyHash P (Str.ofString "__spec__"), key := Value.str (Str.ofString "__spec__") 169, val := Value.none }, { hash := PyData.keyHash P (Str.ofString "__annotations__"), key := Value.str (Str.ofString "__annotations__") 170, val := Value.ref 6 }, { hash := PyData.keyHash P (Str.ofString "__builtins__"), key := Value.str (Str.ofString "__builtins__") 171, val := Value.ref 4 }, { hash := PyData.keyHash P (Str.ofString "__file__"), key := Value.str (Str.ofString "__file__") 173, val := Value.str (Str.ofString "/claim/cut.py") 172 }, { hash := PyData.keyHash P (Str.ofString "__cached__"), key := Value.str (Str.ofString "__cached__") 174, val := Value.none }, { hash := PyData.keyHash P (Str.ofString "place_of"), key := Value.str (Str.ofString "place_of") 196, val := Value.ref 21 }, { hash := PyData.keyHash P (Str.ofString "posts_of"), key := Value.str (Str.ofString "posts_of") 202, val := Value.ref 26 }, { hash := PyData.keyHash P (Str.ofString "steps"), key := Value.str (Str.ofString "steps") 211, val := Value.ref 33 }, { hash := PyData.keyHash P (Str.ofString "count_ahead"), key := Value.str (Str.ofString "count_ahead") 222, val := Value.ref 40 }, { hash := PyData.keyHash P (Str.ofString "way_among"), key := Value.str (Str.ofString "way_among") 232, val := Value.ref 47 }, { hash := PyData.keyHash P (Str.ofString "pairs_of"), key := Value.str (Str.ofString "pairs_of") 238, val := Value.ref 52 }, { hash := PyData.keyHash P (Str.ofString "room_of"), key := Value.str (Str.ofString "room_of") 246, val := Value.ref 59 }, { hash := PyData.keyHash P (Str.ofString "rooms_of"), key := Value.str (Str.ofString "rooms_of") 259, val := Value.ref 66 }, { hash := PyData.keyHash P (Str.ofString "deal_of"), key := Value.str (Str.ofString "deal_of") 265, val := Value.ref 71 }, { hash := PyData.keyHash P (Str.ofString "moves"), key := Value.str (Str.ofString "moves") 271, val := Value.ref 76 }, { hash := PyData.keyHash P (Str.ofString "RingError"), key := Value.str (Str.ofString "RingError") 291, val := Value.ref 86 }, { hash := PyData.keyHash P (Str.ofString "NoKeeper"), key := Value.str (Str.ofString "NoKeeper") 307, val := Value.ref 99 }, { hash := PyData.keyHash P (Str.ofString "KeeperThere"), key := Value.str (Str.ofString "KeeperThere") 323, val := Value.ref 111 }, { hash := PyData.keyHash P (Str.ofString "NoShare"), key := Value.str (Str.ofString "NoShare") 339, val := Value.ref 123 }, { hash := PyData.keyHash P (Str.ofString "NoName"), key := Value.str (Str.ofString "NoName") 355, val := Value.ref 135 }, { hash := PyData.keyHash P (Str.ofString "NameThere"), key := Value.str (Str.ofString "NameThere") 371, val := Value.ref 147 }, { hash := PyData.keyHash P (Str.ofString "Story"), key := Value.str (Str.ofString "Story") 462, val := Value.ref 215 }, { hash := PyData.keyHash P (Str.ofString "do"), key := Value.str (Str.ofString "do") 471, val := Value.ref 226 }, { hash := PyData.keyHash P (Str.ofString "answer_of"), key := Value.str (Str.ofString "answer_of") 479, val := Value.ref 233 }, { hash := PyData.keyHash P (Str.ofString "answers"), key := Value.str (Str.ofString "answers") 485, val := Value.ref 238 }, { hash := PyData.keyHash P (Str.ofString "ring_after"), key := Value.str (Str.ofString "ring_after") 495, val := Value.ref 245 }, { hash := PyData.keyHash P (Str.ofString "_law_so"), key := Value.str (Str.ofString "_law_so") 506, val := Value.ref 252 }, { hash := PyData.keyHash P (Str.ofString "_law_whole"), key := Value.str (Str.ofString "_law_whole") 513, val := Value.ref 259 }, { hash := PyData.keyHash P (Str.ofString "_law_at"), key := Value.str (Str.ofString "_law_at") 521, val := Value.ref 266 }, { hash := PyData.keyHash P (Str.ofString "_law_way_from"), key := Value.str (Str.ofString "_law_way_from") 536, val := Value.ref 273 }, { hash := PyData.keyHash P (Str.ofString "_law_plan_by"), key := Value.str (Str.ofString "_law_plan_by") 545, val := Value.ref 280 }, { hash := PyData.keyHash P (Str.ofString "_law_own_deal"), key := Value.str (Str.ofString "_law_own_deal") 551, val := Value.ref 285 }, { hash := PyData.keyHash P (Str.ofString "_law_are_rows"), key := Value.str (Str.ofString "_law_are_rows") 557, val := Value.ref 290 }, { hash := PyData.keyHash P (Str.ofString "_law_own_moves"), key := Value.str (Str.ofString "_law_own_moves") 563, val := Value.ref 295 }, { hash := PyData.keyHash P (Str.ofString "_law_are_moves"), key := Value.str (Str.ofString "_law_are_moves") 572, val := Value.ref 302 }, { hash := PyData.keyHash P (Str.ofString "_law_deed_of"), key := Value.str (Str.ofString "_law_deed_of") 586, val := Value.ref 309 }, { hash := PyData.keyHash P (Str.ofString "_law_due_answer"), key := Value.str (Str.ofString "_law_due_answer") 592, val := Value.ref 314 }, { hash := PyData.keyHash P (Str.ofString "_law_alike"), key := Value.str (Str.ofString "_law_alike") 600, val := Value.ref 321 }, { hash := PyData.keyHash P (Str.ofString "law"), key := Value.str (Str.ofString "law") 606, val := Value.ref 326 }] 43 }
noncomputable def o_20 (P : Params) : Obj := { cls := Value.type "code", data := Data.fields #[Value.str (Str.ofString "place_of") 189, Value.str (Str.ofString "place_of") 190, Value.str (Str.ofString "/claim/cut.py") 191, Value.int 2 0, Value.int 2 0, Value.int 0 0, Value.int 0 0, Value.int 3 0, Value.ref 15, Value.bool true, Value.int 181 0, Value.ref 16, Value.none, Value.ref 17, Value.ref 18, Value.ref 19, Value.int 194 0, Value.int 2 0, Value.str (Str.ofString "/claim/cut.py") 195] }
noncomputable def o_21 (P : Params) : Obj := { cls := Value.type "function", data := Data.func { name := Str.ofString "place_of", qualname := Str.ofString "place_of", params := defArgs sPlace, body := FuncBody.stmts (defBody sPlace), scope := defScope sPlace, globals := 3, closure := [], defaults := Value.none, kwdefaults := Value.none, pyModule := Value.str (Str.ofString "ringdeal.ring") 187, code := Value.ref 20 } }
noncomputable def o_25 (P : Params) : Obj := { cls := Value.type "code", data := Data.fields #[Value.str (Str.ofString "posts_of") 197, Value.str (Str.ofString "posts_of") 198, Value.str (Str.ofString "/claim/cut.py") 199, Value.int 4 0, Value.int 3 0, Value.int 0 0, Value.int 0 0, Value.int 3 0, Value.ref 22, Value.bool true, Value.int 181 0, Value.ref 23, Value.none, Value.none, Value.none, Value.ref 24, Value.int 200 0, Value.int 4 0, Value.str (Str.ofString "/claim/cut.py") 201] }
noncomputable def o_26 (P : Params) : Obj := { cls := Value.type "function", data := Data.func { name := Str.ofString "posts_of", qualname := Str.ofString "posts_of", params := defArgs sPosts, body := FuncBody.stmts (defBody sPosts), scope := defScope sPosts, globals := 3, closure := [], defaults := Value.none, kwdefaults := Value.none, pyModule := Value.str (Str.ofString "ringdeal.ring") 187, code := Value.ref 25 } }
noncomputable def o_32 (P : Params) : Obj := { cls := Value.type "code", data := Data.fields #[Value.str (Str.ofString "steps") 203, Value.str (Str.ofString "steps") 204, Value.str (Str.ofString "/claim/cut.py") 205, Value.int 6 0, Value.int 3 0, Value.int 0 0, Value.int 0 0, Value.int 3 0, Value.ref 27, Value.bool true, Value.int 181 0, Value.ref 28, Value.none, Value.ref 29, Value.ref 30, Value.ref 31, Value.int 209 0, Value.int 6 0, Value.str (Str.ofString "/claim/cut.py") 210] }
noncomputable def o_33 (P : Params) : Obj := { cls := Value.type "function", data := Data.func { name := Str.ofString "steps", qualname := Str.ofString "steps", params := defArgs sSteps, body := FuncBody.stmts (defBody sSteps), scope := defScope sSteps, globals := 3, closure := [], defaults := Value.none, kwdefaults := Value.none, pyModule := Value.str (Str.ofString "ringdeal.ring") 187, code := Value.ref 32 } }
noncomputable def o_39 (P : Params) : Obj := { cls := Value.type "code", data := Data.fields #[Value.str (Str.ofString "count_ahead") 212, Value.str (Str.ofString "count_ahead") 213, Value.str (Str.ofString "/claim/cut.py") 214, Value.int 8 0, Value.int 2 0, Value.int 0 0, Value.int 0 0, Value.int 3 0, Value.ref 34, Value.bool true, Value.int 181 0, Value.ref 35, Value.none, Value.ref 36, Value.ref 37, Value.ref 38, Value.int 220 0, Value.int 8 0, Value.str (Str.ofString "/claim/cut.py") 221] }
noncomputable def o_40 (P : Params) : Obj := { cls := Value.type "function", data := Data.func { name := Str.ofString "count_ahead", qualname := Str.ofString "count_ahead", params := defArgs sCount, body := FuncBody.stmts (defBody sCount), scope := defScope sCount, globals := 3, closure := [], defaults := Value.none, kwdefaults := Value.none, pyModule := Value.str (Str.ofString "ringdeal.ring") 187, code := Value.ref 39 } }
noncomputable def o_46 (P : Params) : Obj := { cls := Value.type "code", data := Data.fields #[Value.str (Str.ofString "way_among") 223, Value.str (Str.ofString "way_among") 224, Value.str (Str.ofString "/claim/cut.py") 225, Value.int 18 0, Value.int 3 0, Value.int 0 0, Value.int 0 0, Value.int 3 0, Value.ref 41, Value.bool true, Value.int 181 0, Value.ref 42, Value.none, Value.ref 43, Value.ref 44, Value.ref 45, Value.int 230 0, Value.int 18 0, Value.str (Str.ofString "/claim/cut.py") 231] }
noncomputable def o_47 (P : Params) : Obj := { cls := Value.type "function", data := Data.func { name := Str.ofString "way_among", qualname := Str.ofString "way_among", params := defArgs sAmong, body := FuncBody.stmts (defBody sAmong), scope := defScope sAmong, globals := 3, closure := [], defaults := Value.none, kwdefaults := Value.none, pyModule := Value.str (Str.ofString "ringdeal.ring") 187, code := Value.ref 46 } }
noncomputable def o_51 (P : Params) : Obj := { cls := Value.type "code", data := Data.fields #[Value.str (Str.ofString "pairs_of") 233, Value.str (Str.ofString "pairs_of") 234, Value.str (Str.ofString "/claim/cut.py") 235, Value.int 21 0, Value.int 3 0, Value.int 0 0, Value.int 0 0, Value.int 3 0, Value.ref 48, Value.bool true, Value.int 181 0, Value.ref 49, Value.none, Value.none, Value.none, Value.ref 50, Value.int 236 0, Value.int 21 0, Value.str (Str.ofString "/claim/cut.py") 237] }
noncomputable def o_52 (P : Params) : Obj := { cls := Value.type "function", data := Data.func { name := Str.ofString "pairs_of", qualname := Str.ofString "pairs_of", params := defArgs sPairs, body := FuncBody.stmts (defBody sPairs), scope := defScope sPairs, globals := 3, closure := [], defaults := Value.none, kwdefaults := Value.none, pyModule := Value.str (Str.ofString "ringdeal.ring") 187, code := Value.ref 51 } }
noncomputable def o_58 (P : Params) : Obj := { cls := Value.type "code", data := Data.fields #[Value.str (Str.ofString "room_of") 239, Value.str (Str.ofString "room_of") 240, Value.str (Str.ofString "/claim/cut.py") 241, Value.int 29 0, Value.int 2 0, Value.int 0 0, Value.int 0 0, Value.int 3 0, Value.ref 53, Value.bool true, Value.int 181 0, Value.ref 54, Value.none, Value.ref 55, Value.ref 56, Value.ref 57, Value.int 244 0, Value.int 29 0, Value.str (Str.ofString "/claim/cut.py") 245] }
noncomputable def o_59 (P : Params) : Obj := { cls := Value.type "function", data := Data.func { name := Str.ofString "room_of", qualname := Str.ofString "room_of", params := defArgs sRoom, body := FuncBody.stmts (defBody sRoom), scope := defScope sRoom, globals := 3, closure := [], defaults := Value.none, kwdefaults := Value.none, pyModule := Value.str (Str.ofString "ringdeal.ring") 187, code := Value.ref 58 } }
noncomputable def o_65 (P : Params) : Obj := { cls := Value.type "code", data := Data.fields #[Value.str (Str.ofString "rooms_of") 249, Value.str (Str.ofString "rooms_of") 250, Value.str (Str.ofString "/claim/cut.py") 251, Value.int 32 0, Value.int 2 0, Value.int 0 0, Value.int 0 0, Value.int 3 0, Value.ref 60, Value.bool true, Value.int 181 0, Value.ref 61, Value.none, Value.ref 62, Value.ref 63, Value.ref 64, Value.int 257 0, Value.int 32 0, Value.str (Str.ofString "/claim/cut.py") 258] }
noncomputable def o_66 (P : Params) : Obj := { cls := Value.type "function", data := Data.func { name := Str.ofString "rooms_of", qualname := Str.ofString "rooms_of", params := defArgs sRooms, body := FuncBody.stmts (defBody sRooms), scope := defScope sRooms, globals := 3, closure := [], defaults := Value.none, kwdefaults := Value.none, pyModule := Value.str (Str.ofString "ringdeal.dealing") 247, code := Value.ref 65 } }
noncomputable def o_70 (P : Params) : Obj := { cls := Value.type "code", data := Data.fields #[Value.str (Str.ofString "deal_of") 260, Value.str (Str.ofString "deal_of") 261, Value.str (Str.ofString "/claim/cut.py") 262, Value.int 37 0, Value.int 3 0, Value.int 0 0, Value.int 0 0, Value.int 3 0, Value.ref 67, Value.bool true, Value.int 181 0, Value.ref 68, Value.none, Value.none, Value.none, Value.ref 69, Value.int 263 0, Value.int 37 0, Value.str (Str.ofString "/claim/cut.py") 264] }
noncomputable def o_71 (P : Params) : Obj := { cls := Value.type "function", data := Data.func { name := Str.ofString "deal_of", qualname := Str.ofString "deal_of", params := defArgs sDeal, body := FuncBody.stmts (defBody sDeal), scope := defScope sDeal, globals := 3, closure := [], defaults := Value.none, kwdefaults := Value.none, pyModule := Value.str (Str.ofString "ringdeal.dealing") 247, code := Value.ref 70 } }
noncomputable def o_75 (P : Params) : Obj := { cls := Value.type "code", data := Data.fields #[Value.str (Str.ofString "moves") 266, Value.str (Str.ofString "moves") 267, Value.str (Str.ofString "/claim/cut.py") 268, Value.int 47 0, Value.int 2 0, Value.int 0 0, Value.int 0 0, Value.int 3 0, Value.ref 72, Value.bool true, Value.int 181 0, Value.ref 73, Value.none, Value.none, Value.none, Value.ref 74, Value.int 269 0, Value.int 47 0, Value.str (Str.ofString "/claim/cut.py") 270] }
noncomputable def o_76 (P : Params) : Obj := { cls := Value.type "function", data := Data.func { name := Str.ofString "moves", qualname := Str.ofString "moves", params := defArgs sMoves, body := FuncBody.stmts (defBody sMoves), scope := defScope sMoves, globals := 3, closure := [], defaults := Value.none, kwdefaults := Value.none, pyModule := Value.str (Str.ofString "ringdeal.dealing") 247, code := Value.ref 75 } }
noncomputable def o_85 (P : Params) : Obj := { cls := Value.type "dict", data := Data.dict #[{ hash := PyData.keyHash P (Str.ofString "__module__"), key := Value.str (Str.ofString "__module__") 281, val := Value.str (Str.ofString "ringdeal.errors") 272 }, { hash := PyData.keyHash P (Str.ofString "__firstlineno__"), key := Value.str (Str.ofString "__firstlineno__") 285, val := Value.int 51 284 }, { hash := PyData.keyHash P (Str.ofString "__static_attributes__"), key := Value.str (Str.ofString "__static_attributes__") 286, val := Value.ref 84 }, { hash := PyData.keyHash P (Str.ofString "__weakref__"), key := Value.str (Str.ofString "__weakref__") 288, val := Value.ref 87 }, { hash := PyData.keyHash P (Str.ofString "__doc__"), key := Value.str (Str.ofString "__doc__") 289, val := Value.none }] 3 }
noncomputable def o_86 (P : Params) : Obj := { cls := Value.type "type", data := Data.cls { name := Str.ofString "RingError", bases := [Value.type "ValueError"], mro := [Value.ref 86, Value.type "ValueError", Value.type "Exception", Value.type "BaseException", Value.type "object"], ns := 85, qualname := Str.ofString "RingError", subclasses := [Value.ref 99, Value.ref 111, Value.ref 123, Value.ref 135, Value.ref 147] }, slots := #[some (Value.ref 77), none, some (Value.str (Str.ofString "RingError") 274), some (Value.str (Str.ofString "RingError") 282), some (Value.builtin "ValueError.__new__"), some (Value.bool true)] }
noncomputable def o_98 (P : Params) : Obj := { cls := Value.type "dict", data := Data.dict #[{ hash := PyData.keyHash P (Str.ofString "__module__"), key := Value.str (Str.ofString "__module__") 299, val := Value.str (Str.ofString "ringdeal.errors") 272 }, { hash := PyData.keyHash P (Str.ofString "__firstlineno__"), key := Value.str (Str.ofString "__firstlineno__") 303, val := Value.int 53 302 }, { hash := PyData.keyHash P (Str.ofString "__static_attributes__"), key := Value.str (Str.ofString "__static_attributes__") 304, val := Value.ref 97 }, { hash := PyData.keyHash P (Str.ofString "__doc__"), key := Value.str (Str.ofString "__doc__") 305, val := Value.none }] 2 }
noncomputable def o_99 (P : Params) : Obj := { cls := Value.type "type", data := Data.cls { name := Str.ofString "NoKeeper", bases := [Value.ref 86], mro := [Value.ref 99, Value.ref 86, Value.type "ValueError", Value.type "Exception", Value.type "BaseException", Value.type "object"], ns := 98, qualname := Str.ofString "NoKeeper" }, slots := #[some (Value.ref 90), none, some (Value.str (Str.ofString "NoKeeper") 292), some (Value.str (Str.ofString "NoKeeper") 300), some (Value.builtin "ValueError.__new__"), some (Value.bool true)] }
noncomputable def o_110 (P : Params) : Obj := { cls := Value.type "dict", data := Data.dict #[{ hash := PyData.keyHash P (Str.ofString "__module__"), key := Value.str (Str.ofString "__module__") 315, val := Value.str (Str.ofString "ringdeal.errors") 272 }, { hash := PyData.keyHash P (Str.ofString "__firstlineno__"), key := Value.str (Str.ofString "__firstlineno__") 319, val := Value.int 55 318 }, { hash := PyData.keyHash P (Str.ofString "__static_attributes__"), key := Value.str (Str.ofString "__static_attributes__") 320, val := Value.ref 109 }, { hash := PyData.keyHash P (Str.ofString "__doc__"), key := Value.str (Str.ofString "__doc__") 321, val := Value.none }] 2 }
noncomputable def o_111 (P : Params) : Obj := { cls := Value.type "type", data := Data.cls { name := Str.ofString "KeeperThere", bases := [Value.ref 86], mro := [Value.ref 111, Value.ref 86, Value.type "ValueError", Value.type "Exception", Value.type "BaseException", Value.type "object"], ns := 110, qualname := Str.ofString "KeeperThere" }, slots := #[some (Value.ref 102), none, some (Value.str (Str.ofString "KeeperThere") 308), some (Value.str (Str.ofString "KeeperThere") 316), some (Value.builtin "ValueError.__new__"), some (Value.bool true)] }
noncomputable def o_122 (P : Params) : Obj := { cls := Value.type "dict", data := Data.dict #[{ hash := PyData.keyHash P (Str.ofString "__module__"), key := Value.str (Str.ofString "__module__") 331, val := Value.str (Str.ofString "ringdeal.errors") 272 }, { hash := PyData.keyHash P (Str.ofString "__firstlineno__"), key := Value.str (Str.ofString "__firstlineno__") 335, val := Value.int 57 334 }, { hash := PyData.keyHash P (Str.ofString "__static_attributes__"), key := Value.str (Str.ofString "__static_attributes__") 336, val := Value.ref 121 }, { hash := PyData.keyHash P (Str.ofString "__doc__"), key := Value.str (Str.ofString "__doc__") 337, val := Value.none }] 2 }
noncomputable def o_123 (P : Params) : Obj := { cls := Value.type "type", data := Data.cls { name := Str.ofString "NoShare", bases := [Value.ref 86], mro := [Value.ref 123, Value.ref 86, Value.type "ValueError", Value.type "Exception", Value.type "BaseException", Value.type "object"], ns := 122, qualname := Str.ofString "NoShare" }, slots := #[some (Value.ref 114), none, some (Value.str (Str.ofString "NoShare") 324), some (Value.str (Str.ofString "NoShare") 332), some (Value.builtin "ValueError.__new__"), some (Value.bool true)] }
noncomputable def o_134 (P : Params) : Obj := { cls := Value.type "dict", data := Data.dict #[{ hash := PyData.keyHash P (Str.ofString "__module__"), key := Value.str (Str.ofString "__module__") 347, val := Value.str (Str.ofString "ringdeal.errors") 272 }, { hash := PyData.keyHash P (Str.ofString "__firstlineno__"), key := Value.str (Str.ofString "__firstlineno__") 351, val := Value.int 59 350 }, { hash := PyData.keyHash P (Str.ofString "__static_attributes__"), key := Value.str (Str.ofString "__static_attributes__") 352, val := Value.ref 133 }, { hash := PyData.keyHash P (Str.ofString "__doc__"), key := Value.str (Str.ofString "__doc__") 353, val := Value.none }] 2 }
noncomputable def o_135 (P : Params) : Obj := { cls := Value.type "type", data := Data.cls { name := Str.ofString "NoName", bases := [Value.ref 86], mro := [Value.ref 135, Value.ref 86, Value.type "ValueError", Value.type "Exception", Value.type "BaseException", Value.type "object"], ns := 134, qualname := Str.ofString "NoName" }, slots := #[some (Value.ref 126), none, some (Value.str (Str.ofString "NoName") 340), some (Value.str (Str.ofString "NoName") 348), some (Value.builtin "ValueError.__new__"), some (Value.bool true)] }
noncomputable def o_146 (P : Params) : Obj := { cls := Value.type "dict", data := Data.dict #[{ hash := PyData.keyHash P (Str.ofString "__module__"), key := Value.str (Str.ofString "__module__") 363, val := Value.str (Str.ofString "ringdeal.errors") 272 }, { hash := PyData.keyHash P (Str.ofString "__firstlineno__"), key := Value.str (Str.ofString "__firstlineno__") 367, val := Value.int 61 366 }, { hash := PyData.keyHash P (Str.ofString "__static_attributes__"), key := Value.str (Str.ofString "__static_attributes__") 368, val := Value.ref 145 }, { hash := PyData.keyHash P (Str.ofString "__doc__"), key := Value.str (Str.ofString "__doc__") 369, val := Value.none }] 2 }
noncomputable def o_147 (P : Params) : Obj := { cls := Value.type "type", data := Data.cls { name := Str.ofString "NameThere", bases := [Value.ref 86], mro := [Value.ref 147, Value.ref 86, Value.type "ValueError", Value.type "Exception", Value.type "BaseException", Value.type "object"], ns := 146, qualname := Str.ofString "NameThere" }, slots := #[some (Value.ref 138), none, some (Value.str (Str.ofString "NameThere") 356), some (Value.str (Str.ofString "NameThere") 364), some (Value.builtin "ValueError.__new__"), some (Value.bool true)] }
noncomputable def o_162 (P : Params) : Obj := { cls := Value.type "code", data := Data.fields #[Value.str (Str.ofString "__init__") 386, Value.str (Str.ofString "Story.__init__") 387, Value.str (Str.ofString "/claim/cut.py") 388, Value.int 66 0, Value.int 2 0, Value.int 0 0, Value.int 0 0, Value.int 3 0, Value.ref 157, Value.bool true, Value.int 181 0, Value.ref 158, Value.none, Value.ref 159, Value.ref 160, Value.ref 161, Value.int 391 0, Value.int 66 0, Value.str (Str.ofString "/claim/cut.py") 392] }
noncomputable def o_163 (P : Params) : Obj := { cls := Value.type "function", data := Data.func { name := Str.ofString "__init__", qualname := Str.ofString "Story.__init__", params := defArgs sInit, body := FuncBody.stmts (defBody sInit), scope := defScope sInit, globals := 3, closure := [], defaults := Value.none, kwdefaults := Value.none, pyModule := Value.str (Str.ofString "ringdeal.story") 372, code := Value.ref 162 } }
noncomputable def o_169 (P : Params) : Obj := { cls := Value.type "code", data := Data.fields #[Value.str (Str.ofString "deal_anew") 394, Value.str (Str.ofString "Story.deal_anew") 395, Value.str (Str.ofString "/claim/cut.py") 396, Value.int 72 0, Value.int 1 0, Value.int 0 0, Value.int 0 0, Value.int 3 0, Value.ref 164, Value.bool true, Value.int 181 0, Value.ref 165, Value.none, Value.ref 166, Value.ref 167, Value.ref 168, Value.int 399 0, Value.int 72 0, Value.str (Str.ofString "/claim/cut.py") 400] }
noncomputable def o_170 (P : Params) : Obj := { cls := Value.type "function", data := Data.func { name := Str.ofString "deal_anew", qualname := Str.ofString "Story.deal_anew", params := defArgs sAnew, body := FuncBody.stmts (defBody sAnew), scope := defScope sAnew, globals := 3, closure := [], defaults := Value.none, kwdefaults := Value.none, pyModule := Value.str (Str.ofString "ringdeal.story") 372, code := Value.ref 169 } }
noncomputable def o_176 (P : Params) : Obj := { cls := Value.type "code", data := Data.fields #[Value.str (Str.ofString "come") 402, Value.str (Str.ofString "Story.come") 403, Value.str (Str.ofString "/claim/cut.py") 404, Value.int 77 0, Value.int 3 0, Value.int 0 0, Value.int 0 0, Value.int 3 0, Value.ref 171, Value.bool true, Value.int 181 0, Value.ref 172, Value.none, Value.ref 173, Value.ref 174, Value.ref 175, Value.int 408 0, Value.int 77 0, Value.str (Str.ofString "/claim/cut.py") 409] }
noncomputable def o_177 (P : Params) : Obj := { cls := Value.type "function", data := Data.func { name := Str.ofString "come", qualname := Str.ofString "Story.come", params := defArgs sCome, body := FuncBody.stmts (defBody sCome), scope := defScope sCome, globals := 3, closure := [], defaults := Value.none, kwdefaults := Value.none, pyModule := Value.str (Str.ofString "ringdeal.story") 372, code := Value.ref 176 } }
noncomputable def o_183 (P : Params) : Obj := { cls := Value.type "code", data := Data.fields #[Value.str (Str.ofString "leave") 411, Value.str (Str.ofString "Story.leave") 412, Value.str (Str.ofString "/claim/cut.py") 413, Value.int 85 0, Value.int 2 0, Value.int 0 0, Value.int 0 0, Value.int 3 0, Value.ref 178, Value.bool true, Value.int 181 0, Value.ref 179, Value.none, Value.ref 180, Value.ref 181, Value.ref 182, Value.int 416 0, Value.int 85 0, Value.str (Str.ofString "/claim/cut.py") 417] }
noncomputable def o_184 (P : Params) : Obj := { cls := Value.type "function", data := Data.func { name := Str.ofString "leave", qualname := Str.ofString "Story.leave", params := defArgs sLeave, body := FuncBody.stmts (defBody sLeave), scope := defScope sLeave, globals := 3, closure := [], defaults := Value.none, kwdefaults := Value.none, pyModule := Value.str (Str.ofString "ringdeal.story") 372, code := Value.ref 183 } }
noncomputable def o_190 (P : Params) : Obj := { cls := Value.type "code", data := Data.fields #[Value.str (Str.ofString "put") 419, Value.str (Str.ofString "Story.put") 420, Value.str (Str.ofString "/claim/cut.py") 421, Value.int 91 0, Value.int 2 0, Value.int 0 0, Value.int 0 0, Value.int 3 0, Value.ref 185, Value.bool true, Value.int 181 0, Value.ref 186, Value.none, Value.ref 187, Value.ref 188, Value.ref 189, Value.int 424 0, Value.int 91 0, Value.str (Str.ofString "/claim/cut.py") 425] }
noncomputable def o_191 (P : Params) : Obj := { cls := Value.type "function", data := Data.func { name := Str.ofString "put", qualname := Str.ofString "Story.put", params := defArgs sPut, body := FuncBody.stmts (defBody sPut), scope := defScope sPut, globals := 3, closure := [], defaults := Value.none, kwdefaults := Value.none, pyModule := Value.str (Str.ofString "ringdeal.story") 372, code := Value.ref 190 } }
noncomputable def o_197 (P : Params) : Obj := { cls := Value.type "code", data := Data.fields #[Value.str (Str.ofString "drop") 427, Value.str (Str.ofString "Story.drop") 428, Value.str (Str.ofString "/claim/cut.py") 429, Value.int 97 0, Value.int 2 0, Value.int 0 0, Value.int 0 0, Value.int 3 0, Value.ref 192, Value.bool true, Value.int 181 0, Value.ref 193, Value.none, Value.ref 194, Value.ref 195, Value.ref 196, Value.int 432 0, Value.int 97 0, Value.str (Str.ofString "/claim/cut.py") 433] }
noncomputable def o_198 (P : Params) : Obj := { cls := Value.type "function", data := Data.func { name := Str.ofString "drop", qualname := Str.ofString "Story.drop", params := defArgs sDrop, body := FuncBody.stmts (defBody sDrop), scope := defScope sDrop, globals := 3, closure := [], defaults := Value.none, kwdefaults := Value.none, pyModule := Value.str (Str.ofString "ringdeal.story") 372, code := Value.ref 197 } }
noncomputable def o_204 (P : Params) : Obj := { cls := Value.type "code", data := Data.fields #[Value.str (Str.ofString "where") 435, Value.str (Str.ofString "Story.where") 436, Value.str (Str.ofString "/claim/cut.py") 437, Value.int 102 0, Value.int 2 0, Value.int 0 0, Value.int 0 0, Value.int 3 0, Value.ref 199, Value.bool true, Value.int 181 0, Value.ref 200, Value.none, Value.ref 201, Value.ref 202, Value.ref 203, Value.int 440 0, Value.int 102 0, Value.str (Str.ofString "/claim/cut.py") 441] }
noncomputable def o_205 (P : Params) : Obj := { cls := Value.type "function", data := Data.func { name := Str.ofString "where", qualname := Str.ofString "Story.where", params := defArgs sWhere, body := FuncBody.stmts (defBody sWhere), scope := defScope sWhere, globals := 3, closure := [], defaults := Value.none, kwdefaults := Value.none, pyModule := Value.str (Str.ofString "ringdeal.story") 372, code := Value.ref 204 } }
noncomputable def o_211 (P : Params) : Obj := { cls := Value.type "code", data := Data.fields #[Value.str (Str.ofString "need_name") 443, Value.str (Str.ofString "Story.need_name") 444, Value.str (Str.ofString "/claim/cut.py") 445, Value.int 106 0, Value.int 2 0, Value.int 0 0, Value.int 0 0, Value.int 3 0, Value.ref 206, Value.bool true, Value.int 181 0, Value.ref 207, Value.none, Value.ref 208, Value.ref 209, Value.ref 210, Value.int 448 0, Value.int 106 0, Value.str (Str.ofString "/claim/cut.py") 449] }
noncomputable def o_212 (P : Params) : Obj := { cls := Value.type "function", data := Data.func { name := Str.ofString "need_name", qualname := Str.ofString "Story.need_name", params := defArgs sNeed, body := FuncBody.stmts (defBody sNeed), scope := defScope sNeed, globals := 3, closure := [], defaults := Value.none, kwdefaults := Value.none, pyModule := Value.str (Str.ofString "ringdeal.story") 372, code := Value.ref 211 } }
noncomputable def o_214 (P : Params) : Obj := { cls := Value.type "dict", data := Data.dict #[{ hash := PyData.keyHash P (Str.ofString "__module__"), key := Value.str (Str.ofString "__module__") 381, val := Value.str (Str.ofString "ringdeal.story") 372 }, { hash := PyData.keyHash P (Str.ofString "__firstlineno__"), key := Value.str (Str.ofString "__firstlineno__") 385, val := Value.int 64 384 }, { hash := PyData.keyHash P (Str.ofString "__init__"), key := Value.str (Str.ofString "__init__") 393, val := Value.ref 163 }, { hash := PyData.keyHash P (Str.ofString "deal_anew"), key := Value.str (Str.ofString "deal_anew") 401, val := Value.ref 170 }, { hash := PyData.keyHash P (Str.ofString "come"), key := Value.str (Str.ofString "come") 410, val := Value.ref 177 }, { hash := PyData.keyHash P (Str.ofString "leave"), key := Value.str (Str.ofString "leave") 418, val := Value.ref 184 }, { hash := PyData.keyHash P (Str.ofString "put"), key := Value.str (Str.ofString "put") 426, val := Value.ref 191 }, { hash := PyData.keyHash P (Str.ofString "drop"), key := Value.str (Str.ofString "drop") 434, val := Value.ref 198 }, { hash := PyData.keyHash P (Str.ofString "where"), key := Value.str (Str.ofString "where") 442, val := Value.ref 205 }, { hash := PyData.keyHash P (Str.ofString "need_name"), key := Value.str (Str.ofString "need_name") 450, val := Value.ref 212 }, { hash := PyData.keyHash P (Str.ofString "__static_attributes__"), key := Value.str (Str.ofString "__static_attributes__") 455, val := Value.ref 213 }, { hash := PyData.keyHash P (Str.ofString "__dict__"), key := Value.str (Str.ofString "__dict__") 457, val := Value.ref 216 }, { hash := PyData.keyHash P (Str.ofString "__weakref__"), key := Value.str (Str.ofString "__weakref__") 459, val := Value.ref 217 }, { hash := PyData.keyHash P (Str.ofString "__doc__"), key := Value.str (Str.ofString "__doc__") 460, val := Value.none }] 4 }
noncomputable def o_215 (P : Params) : Obj := { cls := Value.type "type", data := Data.cls { name := Str.ofString "Story", bases := [Value.type "object"], mro := [Value.ref 215, Value.type "object"], ns := 214, qualname := Str.ofString "Story" }, slots := #[none, none, some (Value.str (Str.ofString "Story") 374), some (Value.str (Str.ofString "Story") 382), some (Value.builtin "object.__new__"), some (Value.bool true)] }
noncomputable def o_225 (P : Params) : Obj := { cls := Value.type "code", data := Data.fields #[Value.str (Str.ofString "do") 463, Value.str (Str.ofString "do") 464, Value.str (Str.ofString "/claim/cut.py") 465, Value.int 109 0, Value.int 2 0, Value.int 0 0, Value.int 0 0, Value.int 3 0, Value.ref 220, Value.bool true, Value.int 181 0, Value.ref 221, Value.none, Value.ref 222, Value.ref 223, Value.ref 224, Value.int 469 0, Value.int 109 0, Value.str (Str.ofString "/claim/cut.py") 470] }
noncomputable def o_226 (P : Params) : Obj := { cls := Value.type "function", data := Data.func { name := Str.ofString "do", qualname := Str.ofString "do", params := defArgs sDo, body := FuncBody.stmts (defBody sDo), scope := defScope sDo, globals := 3, closure := [], defaults := Value.none, kwdefaults := Value.none, pyModule := Value.str (Str.ofString "ringdeal.story") 372, code := Value.ref 225 } }
noncomputable def o_232 (P : Params) : Obj := { cls := Value.type "code", data := Data.fields #[Value.str (Str.ofString "answer_of") 472, Value.str (Str.ofString "answer_of") 473, Value.str (Str.ofString "/claim/cut.py") 474, Value.int 120 0, Value.int 2 0, Value.int 0 0, Value.int 0 0, Value.int 3 0, Value.ref 227, Value.bool true, Value.int 181 0, Value.ref 228, Value.none, Value.ref 229, Value.ref 230, Value.ref 231, Value.int 477 0, Value.int 120 0, Value.str (Str.ofString "/claim/cut.py") 478] }
noncomputable def o_233 (P : Params) : Obj := { cls := Value.type "function", data := Data.func { name := Str.ofString "answer_of", qualname := Str.ofString "answer_of", params := defArgs sAnswer, body := FuncBody.stmts (defBody sAnswer), scope := defScope sAnswer, globals := 3, closure := [], defaults := Value.none, kwdefaults := Value.none, pyModule := Value.str (Str.ofString "ringdeal.story") 372, code := Value.ref 232 } }
noncomputable def o_237 (P : Params) : Obj := { cls := Value.type "code", data := Data.fields #[Value.str (Str.ofString "answers") 480, Value.str (Str.ofString "answers") 481, Value.str (Str.ofString "/claim/cut.py") 482, Value.int 133 0, Value.int 2 0, Value.int 0 0, Value.int 0 0, Value.int 3 0, Value.ref 234, Value.bool true, Value.int 181 0, Value.ref 235, Value.none, Value.none, Value.none, Value.ref 236, Value.int 483 0, Value.int 133 0, Value.str (Str.ofString "/claim/cut.py") 484] }
noncomputable def o_238 (P : Params) : Obj := { cls := Value.type "function", data := Data.func { name := Str.ofString "answers", qualname := Str.ofString "answers", params := defArgs sAnswers, body := FuncBody.stmts (defBody sAnswers), scope := defScope sAnswers, globals := 3, closure := [], defaults := Value.none, kwdefaults := Value.none, pyModule := Value.str (Str.ofString "ringdeal.story") 372, code := Value.ref 237 } }
noncomputable def o_244 (P : Params) : Obj := { cls := Value.type "code", data := Data.fields #[Value.str (Str.ofString "ring_after") 486, Value.str (Str.ofString "ring_after") 487, Value.str (Str.ofString "/claim/cut.py") 488, Value.int 136 0, Value.int 2 0, Value.int 0 0, Value.int 0 0, Value.int 3 0, Value.ref 239, Value.bool true, Value.int 181 0, Value.ref 240, Value.none, Value.ref 241, Value.ref 242, Value.ref 243, Value.int 493 0, Value.int 136 0, Value.str (Str.ofString "/claim/cut.py") 494] }
noncomputable def o_245 (P : Params) : Obj := { cls := Value.type "function", data := Data.func { name := Str.ofString "ring_after", qualname := Str.ofString "ring_after", params := defArgs sAfter, body := FuncBody.stmts (defBody sAfter), scope := defScope sAfter, globals := 3, closure := [], defaults := Value.none, kwdefaults := Value.none, pyModule := Value.str (Str.ofString "ringdeal.story") 372, code := Value.ref 244 } }
noncomputable def o_251 (P : Params) : Obj := { cls := Value.type "code", data := Data.fields #[Value.str (Str.ofString "_law_so") 498, Value.str (Str.ofString "_law_so") 499, Value.str (Str.ofString "/claim/cut.py") 500, Value.int 142 0, Value.int 2 0, Value.int 0 0, Value.int 0 0, Value.int 3 0, Value.ref 246, Value.bool true, Value.int 181 0, Value.ref 247, Value.none, Value.ref 248, Value.ref 249, Value.ref 250, Value.int 504 0, Value.int 142 0, Value.str (Str.ofString "/claim/cut.py") 505] }
noncomputable def o_252 (P : Params) : Obj := { cls := Value.type "function", data := Data.func { name := Str.ofString "_law_so", qualname := Str.ofString "_law_so", params := defArgs sSo, body := FuncBody.stmts (defBody sSo), scope := defScope sSo, globals := 3, closure := [], defaults := Value.none, kwdefaults := Value.none, pyModule := Value.str (Str.ofString "law_ringdeal_k08_plain_story") 496, code := Value.ref 251 } }
noncomputable def o_258 (P : Params) : Obj := { cls := Value.type "code", data := Data.fields #[Value.str (Str.ofString "_law_whole") 507, Value.str (Str.ofString "_law_whole") 508, Value.str (Str.ofString "/claim/cut.py") 509, Value.int 163 0, Value.int 1 0, Value.int 0 0, Value.int 0 0, Value.int 3 0, Value.ref 253, Value.bool true, Value.int 181 0, Value.ref 254, Value.none, Value.ref 255, Value.ref 256, Value.ref 257, Value.int 511 0, Value.int 163 0, Value.str (Str.ofString "/claim/cut.py") 512] }
noncomputable def o_259 (P : Params) : Obj := { cls := Value.type "function", data := Data.func { name := Str.ofString "_law_whole", qualname := Str.ofString "_law_whole", params := defArgs sWhole, body := FuncBody.stmts (defBody sWhole), scope := defScope sWhole, globals := 3, closure := [], defaults := Value.none, kwdefaults := Value.none, pyModule := Value.str (Str.ofString "law_ringdeal_k08_plain_story") 496, code := Value.ref 258 } }
noncomputable def o_265 (P : Params) : Obj := { cls := Value.type "code", data := Data.fields #[Value.str (Str.ofString "_law_at") 514, Value.str (Str.ofString "_law_at") 515, Value.str (Str.ofString "/claim/cut.py") 516, Value.int 165 0, Value.int 2 0, Value.int 0 0, Value.int 0 0, Value.int 3 0, Value.ref 260, Value.bool true, Value.int 181 0, Value.ref 261, Value.none, Value.ref 262, Value.ref 263, Value.ref 264, Value.int 519 0, Value.int 165 0, Value.str (Str.ofString "/claim/cut.py") 520] }
noncomputable def o_266 (P : Params) : Obj := { cls := Value.type "function", data := Data.func { name := Str.ofString "_law_at", qualname := Str.ofString "_law_at", params := defArgs sAt, body := FuncBody.stmts (defBody sAt), scope := defScope sAt, globals := 3, closure := [], defaults := Value.none, kwdefaults := Value.none, pyModule := Value.str (Str.ofString "law_ringdeal_k08_plain_story") 496, code := Value.ref 265 } }
noncomputable def o_272 (P : Params) : Obj := { cls := Value.type "code", data := Data.fields #[Value.str (Str.ofString "_law_way_from") 522, Value.str (Str.ofString "_law_way_from") 523, Value.str (Str.ofString "/claim/cut.py") 524, Value.int 169 0, Value.int 4 0, Value.int 0 0, Value.int 0 0, Value.int 3 0, Value.ref 267, Value.bool true, Value.int 181 0, Value.ref 268, Value.none, Value.ref 269, Value.ref 270, Value.ref 271, Value.int 534 0, Value.int 169 0, Value.str (Str.ofString "/claim/cut.py") 535] }
noncomputable def o_273 (P : Params) : Obj := { cls := Value.type "function", data := Data.func { name := Str.ofString "_law_way_from", qualname := Str.ofString "_law_way_from", params := defArgs sFrom, body := FuncBody.stmts (defBody sFrom), scope := defScope sFrom, globals := 3, closure := [], defaults := Value.none, kwdefaults := Value.none, pyModule := Value.str (Str.ofString "law_ringdeal_k08_plain_story") 496, code := Value.ref 272 } }
noncomputable def o_279 (P : Params) : Obj := { cls := Value.type "code", data := Data.fields #[Value.str (Str.ofString "_law_plan_by") 537, Value.str (Str.ofString "_law_plan_by") 538, Value.str (Str.ofString "/claim/cut.py") 539, Value.int 180 0, Value.int 1 0, Value.int 0 0, Value.int 0 0, Value.int 3 0, Value.ref 274, Value.bool true, Value.int 181 0, Value.ref 275, Value.none, Value.ref 276, Value.ref 277, Value.ref 278, Value.int 543 0, Value.int 180 0, Value.str (Str.ofString "/claim/cut.py") 544] }
noncomputable def o_280 (P : Params) : Obj := { cls := Value.type "function", data := Data.func { name := Str.ofString "_law_plan_by", qualname := Str.ofString "_law_plan_by", params := defArgs sPlan, body := FuncBody.stmts (defBody sPlan), scope := defScope sPlan, globals := 3, closure := [], defaults := Value.none, kwdefaults := Value.none, pyModule := Value.str (Str.ofString "law_ringdeal_k08_plain_story") 496, code := Value.ref 279 } }
noncomputable def o_284 (P : Params) : Obj := { cls := Value.type "code", data := Data.fields #[Value.str (Str.ofString "_law_own_deal") 546, Value.str (Str.ofString "_law_own_deal") 547, Value.str (Str.ofString "/claim/cut.py") 548, Value.int 186 0, Value.int 3 0, Value.int 0 0, Value.int 0 0, Value.int 3 0, Value.ref 281, Value.bool true, Value.int 181 0, Value.ref 282, Value.none, Value.none, Value.none, Value.ref 283, Value.int 549 0, Value.int 186 0, Value.str (Str.ofString "/claim/cut.py") 550] }
noncomputable def o_285 (P : Params) : Obj := { cls := Value.type "function", data := Data.func { name := Str.ofString "_law_own_deal", qualname := Str.ofString "_law_own_deal", params := defArgs sOwnDeal, body := FuncBody.stmts (defBody sOwnDeal), scope := defScope sOwnDeal, globals := 3, closure := [], defaults := Value.none, kwdefaults := Value.none, pyModule := Value.str (Str.ofString "law_ringdeal_k08_plain_story") 496, code := Value.ref 284 } }
noncomputable def o_289 (P : Params) : Obj := { cls := Value.type "code", data := Data.fields #[Value.str (Str.ofString "_law_are_rows") 552, Value.str (Str.ofString "_law_are_rows") 553, Value.str (Str.ofString "/claim/cut.py") 554, Value.int 199 0, Value.int 2 0, Value.int 0 0, Value.int 0 0, Value.int 3 0, Value.ref 286, Value.bool true, Value.int 181 0, Value.ref 287, Value.none, Value.none, Value.none, Value.ref 288, Value.int 555 0, Value.int 199 0, Value.str (Str.ofString "/claim/cut.py") 556] }
noncomputable def o_290 (P : Params) : Obj := { cls := Value.type "function", data := Data.func { name := Str.ofString "_law_are_rows", qualname := Str.ofString "_law_are_rows", params := defArgs sAreRows, body := FuncBody.stmts (defBody sAreRows), scope := defScope sAreRows, globals := 3, closure := [], defaults := Value.none, kwdefaults := Value.none, pyModule := Value.str (Str.ofString "law_ringdeal_k08_plain_story") 496, code := Value.ref 289 } }
noncomputable def o_294 (P : Params) : Obj := { cls := Value.type "code", data := Data.fields #[Value.str (Str.ofString "_law_own_moves") 558, Value.str (Str.ofString "_law_own_moves") 559, Value.str (Str.ofString "/claim/cut.py") 560, Value.int 208 0, Value.int 2 0, Value.int 0 0, Value.int 0 0, Value.int 3 0, Value.ref 291, Value.bool true, Value.int 181 0, Value.ref 292, Value.none, Value.none, Value.none, Value.ref 293, Value.int 561 0, Value.int 208 0, Value.str (Str.ofString "/claim/cut.py") 562] }
noncomputable def o_295 (P : Params) : Obj := { cls := Value.type "function", data := Data.func { name := Str.ofString "_law_own_moves", qualname := Str.ofString "_law_own_moves", params := defArgs sOwnMoves, body := FuncBody.stmts (defBody sOwnMoves), scope := defScope sOwnMoves, globals := 3, closure := [], defaults := Value.none, kwdefaults := Value.none, pyModule := Value.str (Str.ofString "law_ringdeal_k08_plain_story") 496, code := Value.ref 294 } }
noncomputable def o_301 (P : Params) : Obj := { cls := Value.type "code", data := Data.fields #[Value.str (Str.ofString "_law_are_moves") 564, Value.str (Str.ofString "_law_are_moves") 565, Value.str (Str.ofString "/claim/cut.py") 566, Value.int 215 0, Value.int 1 0, Value.int 0 0, Value.int 0 0, Value.int 3 0, Value.ref 296, Value.bool true, Value.int 181 0, Value.ref 297, Value.none, Value.ref 298, Value.ref 299, Value.ref 300, Value.int 570 0, Value.int 215 0, Value.str (Str.ofString "/claim/cut.py") 571] }
noncomputable def o_302 (P : Params) : Obj := { cls := Value.type "function", data := Data.func { name := Str.ofString "_law_are_moves", qualname := Str.ofString "_law_are_moves", params := defArgs sAreMoves, body := FuncBody.stmts (defBody sAreMoves), scope := defScope sAreMoves, globals := 3, closure := [], defaults := Value.none, kwdefaults := Value.none, pyModule := Value.str (Str.ofString "law_ringdeal_k08_plain_story") 496, code := Value.ref 301 } }
noncomputable def o_308 (P : Params) : Obj := { cls := Value.type "code", data := Data.fields #[Value.str (Str.ofString "_law_deed_of") 573, Value.str (Str.ofString "_law_deed_of") 574, Value.str (Str.ofString "/claim/cut.py") 575, Value.int 225 0, Value.int 2 0, Value.int 0 0, Value.int 0 0, Value.int 3 0, Value.ref 303, Value.bool true, Value.int 181 0, Value.ref 304, Value.none, Value.ref 305, Value.ref 306, Value.ref 307, Value.int 584 0, Value.int 225 0, Value.str (Str.ofString "/claim/cut.py") 585] }
noncomputable def o_309 (P : Params) : Obj := { cls := Value.type "function", data := Data.func { name := Str.ofString "_law_deed_of", qualname := Str.ofString "_law_deed_of", params := defArgs sDeedOf, body := FuncBody.stmts (defBody sDeedOf), scope := defScope sDeedOf, globals := 3, closure := [], defaults := Value.none, kwdefaults := Value.none, pyModule := Value.str (Str.ofString "law_ringdeal_k08_plain_story") 496, code := Value.ref 308 } }
noncomputable def o_313 (P : Params) : Obj := { cls := Value.type "code", data := Data.fields #[Value.str (Str.ofString "_law_due_answer") 587, Value.str (Str.ofString "_law_due_answer") 588, Value.str (Str.ofString "/claim/cut.py") 589, Value.int 245 0, Value.int 2 0, Value.int 0 0, Value.int 0 0, Value.int 3 0, Value.ref 310, Value.bool true, Value.int 181 0, Value.ref 311, Value.none, Value.none, Value.none, Value.ref 312, Value.int 590 0, Value.int 245 0, Value.str (Str.ofString "/claim/cut.py") 591] }
noncomputable def o_314 (P : Params) : Obj := { cls := Value.type "function", data := Data.func { name := Str.ofString "_law_due_answer", qualname := Str.ofString "_law_due_answer", params := defArgs sDue, body := FuncBody.stmts (defBody sDue), scope := defScope sDue, globals := 3, closure := [], defaults := Value.none, kwdefaults := Value.none, pyModule := Value.str (Str.ofString "law_ringdeal_k08_plain_story") 496, code := Value.ref 313 } }
noncomputable def o_320 (P : Params) : Obj := { cls := Value.type "code", data := Data.fields #[Value.str (Str.ofString "_law_alike") 593, Value.str (Str.ofString "_law_alike") 594, Value.str (Str.ofString "/claim/cut.py") 595, Value.int 270 0, Value.int 2 0, Value.int 0 0, Value.int 0 0, Value.int 3 0, Value.ref 315, Value.bool true, Value.int 181 0, Value.ref 316, Value.none, Value.ref 317, Value.ref 318, Value.ref 319, Value.int 598 0, Value.int 270 0, Value.str (Str.ofString "/claim/cut.py") 599] }
noncomputable def o_321 (P : Params) : Obj := { cls := Value.type "function", data := Data.func { name := Str.ofString "_law_alike", qualname := Str.ofString "_law_alike", params := defArgs sAlike, body := FuncBody.stmts (defBody sAlike), scope := defScope sAlike, globals := 3, closure := [], defaults := Value.none, kwdefaults := Value.none, pyModule := Value.str (Str.ofString "law_ringdeal_k08_plain_story") 496, code := Value.ref 320 } }
noncomputable def o_325 (P : Params) : Obj := { cls := Value.type "code", data := Data.fields #[Value.str (Str.ofString "law") 601, Value.str (Str.ofString "law") 602, Value.str (Str.ofString "/claim/cut.py") 603, Value.int 276 0, Value.int 1 0, Value.int 0 0, Value.int 0 0, Value.int 3 0, Value.ref 322, Value.bool true, Value.int 181 0, Value.ref 323, Value.none, Value.none, Value.none, Value.ref 324, Value.int 604 0, Value.int 276 0, Value.str (Str.ofString "/claim/cut.py") 605] }
noncomputable def o_326 (P : Params) : Obj := { cls := Value.type "function", data := Data.func { name := Str.ofString "law", qualname := Str.ofString "law", params := defArgs sLaw, body := FuncBody.stmts (defBody sLaw), scope := defScope sLaw, globals := 3, closure := [], defaults := Value.none, kwdefaults := Value.none, pyModule := Value.str (Str.ofString "law_ringdeal_k08_plain_story") 496, code := Value.ref 325 } }
noncomputable def KK (P : Params) : PySem.W.Frag := (nat_lit 3, o_3 P) :: (nat_lit 20, o_20 P) :: (nat_lit 21, o_21 P) :: (nat_lit 25, o_25 P) :: (nat_lit 26, o_26 P) :: (nat_lit 32, o_32 P) :: (nat_lit 33, o_33 P) :: (nat_lit 39, o_39 P) :: (nat_lit 40, o_40 P) :: (nat_lit 46, o_46 P) :: (nat_lit 47, o_47 P) :: (nat_lit 51, o_51 P) :: (nat_lit 52, o_52 P) :: (nat_lit 58, o_58 P) :: (nat_lit 59, o_59 P) :: (nat_lit 65, o_65 P) :: (nat_lit 66, o_66 P) :: (nat_lit 70, o_70 P) :: (nat_lit 71, o_71 P) :: (nat_lit 75, o_75 P) :: (nat_lit 76, o_76 P) :: (nat_lit 85, o_85 P) :: (nat_lit 86, o_86 P) :: (nat_lit 98, o_98 P) :: (nat_lit 99, o_99 P) :: (nat_lit 110, o_110 P) :: (nat_lit 111, o_111 P) :: (nat_lit 122, o_122 P) :: (nat_lit 123, o_123 P) :: (nat_lit 134, o_134 P) :: (nat_lit 135, o_135 P) :: (nat_lit 146, o_146 P) :: (nat_lit 147, o_147 P) :: (nat_lit 162, o_162 P) :: (nat_lit 163, o_163 P) :: (nat_lit 169, o_169 P) :: (nat_lit 170, o_170 P) :: (nat_lit 176, o_176 P) :: (nat_lit 177, o_177 P) :: (nat_lit 183, o_183 P) :: (nat_lit 184, o_184 P) :: (nat_lit 190, o_190 P) :: (nat_lit 191, o_191 P) :: (nat_lit 197, o_197 P) :: (nat_lit 198, o_198 P) :: (nat_lit 204, o_204 P) :: (nat_lit 205, o_205 P) :: (nat_lit 211, o_211 P) :: (nat_lit 212, o_212 P) :: (nat_lit 214, o_214 P) :: (nat_lit 215, o_215 P) :: (nat_lit 225, o_225 P) :: (nat_lit 226, o_226 P) :: (nat_lit 232, o_232 P) :: (nat_lit 233, o_233 P) :: (nat_lit 237, o_237 P) :: (nat_lit 238, o_238 P) :: (nat_lit 244, o_244 P) :: (nat_lit 245, o_245 P) :: (nat_lit 251, o_251 P) :: (nat_lit 252, o_252 P) :: (nat_lit 258, o_258 P) :: (nat_lit 259, o_259 P) :: (nat_lit 265, o_265 P) :: (nat_lit 266, o_266 P) :: (nat_lit 272, o_272 P) :: (nat_lit 273, o_273 P) :: (nat_lit 279, o_279 P) :: (nat_lit 280, o_280 P) :: (nat_lit 284, o_284 P) :: (nat_lit 285, o_285 P) :: (nat_lit 289, o_289 P) :: (nat_lit 290, o_290 P) :: (nat_lit 294, o_294 P) :: (nat_lit 295, o_295 P) :: (nat_lit 301, o_301 P) :: (nat_lit 302, o_302 P) :: (nat_lit 308, o_308 P) :: (nat_lit 309, o_309 P) :: (nat_lit 313, o_313 P) :: (nat_lit 314, o_314 P) :: (nat_lit 320, o_320 P) :: (nat_lit 321, o_321 P) :: (nat_lit 325, o_325 P) :: (nat_lit 326, o_326 P) :: []
end RK

set_option autoImplicit false
set_option maxRecDepth 100000
set_option linter.all false
set_option Elab.async false
set_option maxHeartbeats 8000000
namespace RK
open PySem L2 PyProof.Rows
theorem len1 {us : List Value} (h : us.length = 1) : ∃ a, us = [a] := by
  cases us with
  | nil => cases h
  | cons a r => cases r with
    | nil => exact ⟨a, rfl⟩
    | cons b r => cases h
theorem len2 {us : List Value} (h : us.length = 2) : ∃ a b, us = [a, b] := by
  cases us with
  | nil => cases h
  | cons a r => obtain ⟨b, rfl⟩ := len1 (Nat.succ.inj h); exact ⟨a, b, rfl⟩
theorem len3 {us : List Value} (h : us.length = 3) : ∃ a b c, us = [a, b, c] := by
  cases us with
  | nil => cases h
  | cons a r => obtain ⟨b, c, rfl⟩ := len2 (Nat.succ.inj h); exact ⟨a, b, c, rfl⟩
theorem len4 {us : List Value} (h : us.length = 4) : ∃ a b c d, us = [a, b, c, d] := by
  cases us with
  | nil => cases h
  | cons a r => obtain ⟨b, c, d, rfl⟩ := len3 (Nat.succ.inj h); exact ⟨a, b, c, d, rfl⟩
theorem fn_mk {K : PySem.W.Frag} {h : Heap} {mg : Str → Option Value} {x : Str} {ps : List Str} {st : Stmt} {f : Addr} {oc : Value} {od an : Option Addr} {osl : Array (Option Value)} {kV doc pm cdv ct : Value} (X : K.In h) (G : h.Ns mainGlobals mg)
    (a : PySem.W.nsIn K mainGlobals x = some (some (.ref f))) (l : K.lookup f = some ⟨oc, od, .func (PySem.W.fnOf x x (defArgs st) (defBody st) (defScope st) .none kV doc pm an cdv ct), osl⟩)
    (c : PySem.W.codeIn K cdv x = true) (k : PySem.W.keepIn K (.ref f) = true) (b : Binds K (PySem.W.fnOf x x (defArgs st) (defBody st) (defScope st) .none kV doc pm an cdv ct) ps []) :
    Fn K mg x ps st f (PySem.W.fnOf x x (defArgs st) (defBody st) (defScope st) .none kV doc pm an cdv ct) := ⟨fun_mk (st := st) l c k, PySem.W.mg_of X G a, b⟩
theorem all_mk {l : PySem.W.OpenLaw} {w : World} {K : PySem.W.Frag} {h : Heap} {mg : Str → Option Value} {fa f1 f2 f3 f4 f5 f6 f7 f8 f9 f10 f11 f12 f13 f14 f15 f16 f17 f18 f19 f20 f21 f22 f23 f24 f25 f26 f27 C g1 g2 g3 g4 g5 g6 g7 g8 e1 e2 e3 e4 e5 : Addr} (X : K.In h) (G : h.Ns mainGlobals mg) (hfa : mg "law" = some (.ref fa))
    {od1 an1 od2 an2 od3 an3 od4 an4 od5 an5 od6 an6 od7 an7 od8 an8 od9 an9 od10 an10 od11 an11 od12 an12 od13 an13 od14 an14 od15 an15 od16 an16 od17 an17 od18 an18 od19 an19 od20 an20 od21 an21 od22 an22 od23 an23 od24 an24 od25 an25 od26 an26 od27 an27 : Option Addr} {sl1 sl2 sl3 sl4 sl5 sl6 sl7 sl8 sl9 sl10 sl11 sl12 sl13 sl14 sl15 sl16 sl17 sl18 sl19 sl20 sl21 sl22 sl23 sl24 sl25 sl26 sl27 : Array (Option Value)} {oc1 kV1 dc1 pm1 cd1 ct1 oc2 kV2 dc2 pm2 cd2 ct2 oc3 kV3 dc3 pm3 cd3 ct3 oc4 kV4 dc4 pm4 cd4 ct4 oc5 kV5 dc5 pm5 cd5 ct5 oc6 kV6 dc6 pm6 cd6 ct6 oc7 kV7 dc7 pm7 cd7 ct7 oc8 kV8 dc8 pm8 cd8 ct8 oc9 kV9 dc9 pm9 cd9 ct9 oc10 kV10 dc10 pm10 cd10 ct10 oc11 kV11 dc11 pm11 cd11 ct11 oc12 kV12 dc12 pm12 cd12 ct12 oc13 kV13 dc13 pm13 cd13 ct13 oc14 kV14 dc14 pm14 cd14 ct14 oc15 kV15 dc15 pm15 cd15 ct15 oc16 kV16 dc16 pm16 cd16 ct16 oc17 kV17 dc17 pm17 cd17 ct17 oc18 kV18 dc18 pm18 cd18 ct18 oc19 kV19 dc19 pm19 cd19 ct19 oc20 kV20 dc20 pm20 cd20 ct20 oc21 kV21 dc21 pm21 cd21 ct21 oc22 kV22 dc22 pm22 cd22 ct22 oc23 kV23 dc23 pm23 cd23 ct23 oc24 kV24 dc24 pm24 cd24 ct24 oc25 kV25 dc25 pm25 cd25 ct25 oc26 kV26 dc26 pm26 cd26 ct26 oc27 kV27 dc27 pm27 cd27 ct27 : Value}
    (a1 : PySem.W.nsIn K mainGlobals "place_of" = some (some (.ref f1))) (l1 : K.lookup f1 = some ⟨oc1, od1, .func (PySem.W.fnOf "place_of" "place_of" (defArgs sPlace) (defBody sPlace) (defScope sPlace) .none kV1 dc1 pm1 an1 cd1 ct1), sl1⟩) (c1 : PySem.W.codeIn K cd1 "place_of" = true) (k1 : PySem.W.keepIn K (.ref f1) = true)
    (a2 : PySem.W.nsIn K mainGlobals "posts_of" = some (some (.ref f2))) (l2 : K.lookup f2 = some ⟨oc2, od2, .func (PySem.W.fnOf "posts_of" "posts_of" (defArgs sPosts) (defBody sPosts) (defScope sPosts) .none kV2 dc2 pm2 an2 cd2 ct2), sl2⟩) (c2 : PySem.W.codeIn K cd2 "posts_of" = true) (k2 : PySem.W.keepIn K (.ref f2) = true)
    (a3 : PySem.W.nsIn K mainGlobals "steps" = some (some (.ref f3))) (l3 : K.lookup f3 = some ⟨oc3, od3, .func (PySem.W.fnOf "steps" "steps" (defArgs sSteps) (defBody sSteps) (defScope sSteps) .none kV3 dc3 pm3 an3 cd3 ct3), sl3⟩) (c3 : PySem.W.codeIn K cd3 "steps" = true) (k3 : PySem.W.keepIn K (.ref f3) = true)
    (a4 : PySem.W.nsIn K mainGlobals "count_ahead" = some (some (.ref f4))) (l4 : K.lookup f4 = some ⟨oc4, od4, .func (PySem.W.fnOf "count_ahead" "count_ahead" (defArgs sCount) (defBody sCount) (defScope sCount) .none kV4 dc4 pm4 an4 cd4 ct4), sl4⟩) (c4 : PySem.W.codeIn K cd4 "count_ahead" = true) (k4 : PySem.W.keepIn K (.ref f4) = true)
    (a5 : PySem.W.nsIn K mainGlobals "way_among" = some (some (.ref f5))) (l5 : K.lookup f5 = some ⟨oc5, od5, .func (PySem.W.fnOf "way_among" "way_among" (defArgs sAmong) (defBody sAmong) (defScope sAmong) .none kV5 dc5 pm5 an5 cd5 ct5), sl5⟩) (c5 : PySem.W.codeIn K cd5 "way_among" = true) (k5 : PySem.W.keepIn K (.ref f5) = true)
    (a6 : PySem.W.nsIn K mainGlobals "pairs_of" = some (some (.ref f6))) (l6 : K.lookup f6 = some ⟨oc6, od6, .func (PySem.W.fnOf "pairs_of" "pairs_of" (defArgs sPairs) (defBody sPairs) (defScope sPairs) .none kV6 dc6 pm6 an6 cd6 ct6), sl6⟩) (c6 : PySem.W.codeIn K cd6 "pairs_of" = true) (k6 : PySem.W.keepIn K (.ref f6) = true)
    (a7 : PySem.W.nsIn K mainGlobals "room_of" = some (some (.ref f7))) (l7 : K.lookup f7 = some ⟨oc7, od7, .func (PySem.W.fnOf "room_of" "room_of" (defArgs sRoom) (defBody sRoom) (defScope sRoom) .none kV7 dc7 pm7 an7 cd7 ct7), sl7⟩) (c7 : PySem.W.codeIn K cd7 "room_of" = true) (k7 : PySem.W.keepIn K (.ref f7) = true)
    (a8 : PySem.W.nsIn K mainGlobals "rooms_of" = some (some (.ref f8))) (l8 : K.lookup f8 = some ⟨oc8, od8, .func (PySem.W.fnOf "rooms_of" "rooms_of" (defArgs sRooms) (defBody sRooms) (defScope sRooms) .none kV8 dc8 pm8 an8 cd8 ct8), sl8⟩) (c8 : PySem.W.codeIn K cd8 "rooms_of" = true) (k8 : PySem.W.keepIn K (.ref f8) = true)
    (a9 : PySem.W.nsIn K mainGlobals "deal_of" = some (some (.ref f9))) (l9 : K.lookup f9 = some ⟨oc9, od9, .func (PySem.W.fnOf "deal_of" "deal_of" (defArgs sDeal) (defBody sDeal) (defScope sDeal) .none kV9 dc9 pm9 an9 cd9 ct9), sl9⟩) (c9 : PySem.W.codeIn K cd9 "deal_of" = true) (k9 : PySem.W.keepIn K (.ref f9) = true)
    (a10 : PySem.W.nsIn K mainGlobals "moves" = some (some (.ref f10))) (l10 : K.lookup f10 = some ⟨oc10, od10, .func (PySem.W.fnOf "moves" "moves" (defArgs sMoves) (defBody sMoves) (defScope sMoves) .none kV10 dc10 pm10 an10 cd10 ct10), sl10⟩) (c10 : PySem.W.codeIn K cd10 "moves" = true) (k10 : PySem.W.keepIn K (.ref f10) = true)
    (a11 : PySem.W.nsIn K mainGlobals "do" = some (some (.ref f11))) (l11 : K.lookup f11 = some ⟨oc11, od11, .func (PySem.W.fnOf "do" "do" (defArgs sDo) (defBody sDo) (defScope sDo) .none kV11 dc11 pm11 an11 cd11 ct11), sl11⟩) (c11 : PySem.W.codeIn K cd11 "do" = true) (k11 : PySem.W.keepIn K (.ref f11) = true)
    (a12 : PySem.W.nsIn K mainGlobals "answer_of" = some (some (.ref f12))) (l12 : K.lookup f12 = some ⟨oc12, od12, .func (PySem.W.fnOf "answer_of" "answer_of" (defArgs sAnswer) (defBody sAnswer) (defScope sAnswer) .none kV12 dc12 pm12 an12 cd12 ct12), sl12⟩) (c12 : PySem.W.codeIn K cd12 "answer_of" = true) (k12 : PySem.W.keepIn K (.ref f12) = true)
    (a13 : PySem.W.nsIn K mainGlobals "answers" = some (some (.ref f13))) (l13 : K.lookup f13 = some ⟨oc13, od13, .func (PySem.W.fnOf "answers" "answers" (defArgs sAnswers) (defBody sAnswers) (defScope sAnswers) .none kV13 dc13 pm13 an13 cd13 ct13), sl13⟩) (c13 : PySem.W.codeIn K cd13 "answers" = true) (k13 : PySem.W.keepIn K (.ref f13) = true)
    (a14 : PySem.W.nsIn K mainGlobals "ring_after" = some (some (.ref f14))) (l14 : K.lookup f14 = some ⟨oc14, od14, .func (PySem.W.fnOf "ring_after" "ring_after" (defArgs sAfter) (defBody sAfter) (defScope sAfter) .none kV14 dc14 pm14 an14 cd14 ct14), sl14⟩) (c14 : PySem.W.codeIn K cd14 "ring_after" = true) (k14 : PySem.W.keepIn K (.ref f14) = true)
    (a15 : PySem.W.nsIn K mainGlobals "_law_so" = some (some (.ref f15))) (l15 : K.lookup f15 = some ⟨oc15, od15, .func (PySem.W.fnOf "_law_so" "_law_so" (defArgs sSo) (defBody sSo) (defScope sSo) .none kV15 dc15 pm15 an15 cd15 ct15), sl15⟩) (c15 : PySem.W.codeIn K cd15 "_law_so" = true) (k15 : PySem.W.keepIn K (.ref f15) = true)
    (a16 : PySem.W.nsIn K mainGlobals "_law_whole" = some (some (.ref f16))) (l16 : K.lookup f16 = some ⟨oc16, od16, .func (PySem.W.fnOf "_law_whole" "_law_whole" (defArgs sWhole) (defBody sWhole) (defScope sWhole) .none kV16 dc16 pm16 an16 cd16 ct16), sl16⟩) (c16 : PySem.W.codeIn K cd16 "_law_whole" = true) (k16 : PySem.W.keepIn K (.ref f16) = true)
    (a17 : PySem.W.nsIn K mainGlobals "_law_at" = some (some (.ref f17))) (l17 : K.lookup f17 = some ⟨oc17, od17, .func (PySem.W.fnOf "_law_at" "_law_at" (defArgs sAt) (defBody sAt) (defScope sAt) .none kV17 dc17 pm17 an17 cd17 ct17), sl17⟩) (c17 : PySem.W.codeIn K cd17 "_law_at" = true) (k17 : PySem.W.keepIn K (.ref f17) = true)
    (a18 : PySem.W.nsIn K mainGlobals "_law_way_from" = some (some (.ref f18))) (l18 : K.lookup f18 = some ⟨oc18, od18, .func (PySem.W.fnOf "_law_way_from" "_law_way_from" (defArgs sFrom) (defBody sFrom) (defScope sFrom) .none kV18 dc18 pm18 an18 cd18 ct18), sl18⟩) (c18 : PySem.W.codeIn K cd18 "_law_way_from" = true) (k18 : PySem.W.keepIn K (.ref f18) = true)
    (a19 : PySem.W.nsIn K mainGlobals "_law_plan_by" = some (some (.ref f19))) (l19 : K.lookup f19 = some ⟨oc19, od19, .func (PySem.W.fnOf "_law_plan_by" "_law_plan_by" (defArgs sPlan) (defBody sPlan) (defScope sPlan) .none kV19 dc19 pm19 an19 cd19 ct19), sl19⟩) (c19 : PySem.W.codeIn K cd19 "_law_plan_by" = true) (k19 : PySem.W.keepIn K (.ref f19) = true)
    (a20 : PySem.W.nsIn K mainGlobals "_law_own_deal" = some (some (.ref f20))) (l20 : K.lookup f20 = some ⟨oc20, od20, .func (PySem.W.fnOf "_law_own_deal" "_law_own_deal" (defArgs sOwnDeal) (defBody sOwnDeal) (defScope sOwnDeal) .none kV20 dc20 pm20 an20 cd20 ct20), sl20⟩) (c20 : PySem.W.codeIn K cd20 "_law_own_deal" = true) (k20 : PySem.W.keepIn K (.ref f20) = true)
    (a21 : PySem.W.nsIn K mainGlobals "_law_are_rows" = some (some (.ref f21))) (l21 : K.lookup f21 = some ⟨oc21, od21, .func (PySem.W.fnOf "_law_are_rows" "_law_are_rows" (defArgs sAreRows) (defBody sAreRows) (defScope sAreRows) .none kV21 dc21 pm21 an21 cd21 ct21), sl21⟩) (c21 : PySem.W.codeIn K cd21 "_law_are_rows" = true) (k21 : PySem.W.keepIn K (.ref f21) = true)
    (a22 : PySem.W.nsIn K mainGlobals "_law_own_moves" = some (some (.ref f22))) (l22 : K.lookup f22 = some ⟨oc22, od22, .func (PySem.W.fnOf "_law_own_moves" "_law_own_moves" (defArgs sOwnMoves) (defBody sOwnMoves) (defScope sOwnMoves) .none kV22 dc22 pm22 an22 cd22 ct22), sl22⟩) (c22 : PySem.W.codeIn K cd22 "_law_own_moves" = true) (k22 : PySem.W.keepIn K (.ref f22) = true)
    (a23 : PySem.W.nsIn K mainGlobals "_law_are_moves" = some (some (.ref f23))) (l23 : K.lookup f23 = some ⟨oc23, od23, .func (PySem.W.fnOf "_law_are_moves" "_law_are_moves" (defArgs sAreMoves) (defBody sAreMoves) (defScope sAreMoves) .none kV23 dc23 pm23 an23 cd23 ct23), sl23⟩) (c23 : PySem.W.codeIn K cd23 "_law_are_moves" = true) (k23 : PySem.W.keepIn K (.ref f23) = true)
    (a24 : PySem.W.nsIn K mainGlobals "_law_deed_of" = some (some (.ref f24))) (l24 : K.lookup f24 = some ⟨oc24, od24, .func (PySem.W.fnOf "_law_deed_of" "_law_deed_of" (defArgs sDeedOf) (defBody sDeedOf) (defScope sDeedOf) .none kV24 dc24 pm24 an24 cd24 ct24), sl24⟩) (c24 : PySem.W.codeIn K cd24 "_law_deed_of" = true) (k24 : PySem.W.keepIn K (.ref f24) = true)
    (a25 : PySem.W.nsIn K mainGlobals "_law_due_answer" = some (some (.ref f25))) (l25 : K.lookup f25 = some ⟨oc25, od25, .func (PySem.W.fnOf "_law_due_answer" "_law_due_answer" (defArgs sDue) (defBody sDue) (defScope sDue) .none kV25 dc25 pm25 an25 cd25 ct25), sl25⟩) (c25 : PySem.W.codeIn K cd25 "_law_due_answer" = true) (k25 : PySem.W.keepIn K (.ref f25) = true)
    (a26 : PySem.W.nsIn K mainGlobals "_law_alike" = some (some (.ref f26))) (l26 : K.lookup f26 = some ⟨oc26, od26, .func (PySem.W.fnOf "_law_alike" "_law_alike" (defArgs sAlike) (defBody sAlike) (defScope sAlike) .none kV26 dc26 pm26 an26 cd26 ct26), sl26⟩) (c26 : PySem.W.codeIn K cd26 "_law_alike" = true) (k26 : PySem.W.keepIn K (.ref f26) = true)
    (a27 : PySem.W.nsIn K mainGlobals "law" = some (some (.ref f27))) (l27 : K.lookup f27 = some ⟨oc27, od27, .func (PySem.W.fnOf "law" "law" (defArgs sLaw) (defBody sLaw) (defScope sLaw) .none kV27 dc27 pm27 an27 cd27 ct27), sl27⟩) (c27 : PySem.W.codeIn K cd27 "law" = true) (k27 : PySem.W.keepIn K (.ref f27) = true)
    (z1 : PySem.W.nsIn K mainGlobals "len" = some none)
    (z2 : PySem.W.nsIn K mainGlobals "range" = some none)
    (z3 : PySem.W.nsIn K mainGlobals "sorted" = some none)
    (z4 : PySem.W.nsIn K mainGlobals "isinstance" = some none)
    (z5 : PySem.W.nsIn K mainGlobals "int" = some none)
    (z6 : PySem.W.nsIn K mainGlobals "bool" = some none)
    (z7 : PySem.W.nsIn K mainGlobals "str" = some none)
    (z8 : PySem.W.nsIn K mainGlobals "dict" = some none)
    (z9 : PySem.W.nsIn K mainGlobals "list" = some none)
    (z10 : PySem.W.nsIn K mainGlobals "tuple" = some none)
    (z11 : PySem.W.nsIn K mainGlobals "min" = some none)
    {mod1 man1 mod2 man2 mod3 man3 mod4 man4 mod5 man5 mod6 man6 mod7 man7 mod8 man8 : Option Addr} {msl1 msl2 msl3 msl4 msl5 msl6 msl7 msl8 : Array (Option Value)} {moc1 mkV1 mdc1 mpm1 mcd1 mct1 moc2 mkV2 mdc2 mpm2 mcd2 mct2 moc3 mkV3 mdc3 mpm3 mcd3 mct3 moc4 mkV4 mdc4 mpm4 mcd4 mct4 moc5 mkV5 mdc5 mpm5 mcd5 mct5 moc6 mkV6 mdc6 mpm6 mcd6 mct6 moc7 mkV7 mdc7 mpm7 mcd7 mct7 moc8 mkV8 mdc8 mpm8 mcd8 mct8 : Value}
    (aC : PySem.W.nsIn K mainGlobals "Story" = some (some (.ref C)))
    (ma1 : PySem.W.findIn K (.ref C) "__init__" = some (some (.ref g1))) (mi1 : PySem.W.isFn K (.ref g1) = true) (ml1 : K.lookup g1 = some ⟨moc1, mod1, .func (PySem.W.fnOf "__init__" "Story.__init__" (defArgs sInit) (defBody sInit) (defScope sInit) .none mkV1 mdc1 mpm1 man1 mcd1 mct1), msl1⟩) (mc1 : PySem.W.codeIn K mcd1 "Story.__init__" = true) (mk1 : PySem.W.keepIn K (.ref g1) = true)
    (ma2 : PySem.W.findIn K (.ref C) "deal_anew" = some (some (.ref g2))) (mi2 : PySem.W.isFn K (.ref g2) = true) (ml2 : K.lookup g2 = some ⟨moc2, mod2, .func (PySem.W.fnOf "deal_anew" "Story.deal_anew" (defArgs sAnew) (defBody sAnew) (defScope sAnew) .none mkV2 mdc2 mpm2 man2 mcd2 mct2), msl2⟩) (mc2 : PySem.W.codeIn K mcd2 "Story.deal_anew" = true) (mk2 : PySem.W.keepIn K (.ref g2) = true)
    (ma3 : PySem.W.findIn K (.ref C) "come" = some (some (.ref g3))) (mi3 : PySem.W.isFn K (.ref g3) = true) (ml3 : K.lookup g3 = some ⟨moc3, mod3, .func (PySem.W.fnOf "come" "Story.come" (defArgs sCome) (defBody sCome) (defScope sCome) .none mkV3 mdc3 mpm3 man3 mcd3 mct3), msl3⟩) (mc3 : PySem.W.codeIn K mcd3 "Story.come" = true) (mk3 : PySem.W.keepIn K (.ref g3) = true)
    (ma4 : PySem.W.findIn K (.ref C) "leave" = some (some (.ref g4))) (mi4 : PySem.W.isFn K (.ref g4) = true) (ml4 : K.lookup g4 = some ⟨moc4, mod4, .func (PySem.W.fnOf "leave" "Story.leave" (defArgs sLeave) (defBody sLeave) (defScope sLeave) .none mkV4 mdc4 mpm4 man4 mcd4 mct4), msl4⟩) (mc4 : PySem.W.codeIn K mcd4 "Story.leave" = true) (mk4 : PySem.W.keepIn K (.ref g4) = true)
    (ma5 : PySem.W.findIn K (.ref C) "put" = some (some (.ref g5))) (mi5 : PySem.W.isFn K (.ref g5) = true) (ml5 : K.lookup g5 = some ⟨moc5, mod5, .func (PySem.W.fnOf "put" "Story.put" (defArgs sPut) (defBody sPut) (defScope sPut) .none mkV5 mdc5 mpm5 man5 mcd5 mct5), msl5⟩) (mc5 : PySem.W.codeIn K mcd5 "Story.put" = true) (mk5 : PySem.W.keepIn K (.ref g5) = true)
    (ma6 : PySem.W.findIn K (.ref C) "drop" = some (some (.ref g6))) (mi6 : PySem.W.isFn K (.ref g6) = true) (ml6 : K.lookup g6 = some ⟨moc6, mod6, .func (PySem.W.fnOf "drop" "Story.drop" (defArgs sDrop) (defBody sDrop) (defScope sDrop) .none mkV6 mdc6 mpm6 man6 mcd6 mct6), msl6⟩) (mc6 : PySem.W.codeIn K mcd6 "Story.drop" = true) (mk6 : PySem.W.keepIn K (.ref g6) = true)
    (ma7 : PySem.W.findIn K (.ref C) "where" = some (some (.ref g7))) (mi7 : PySem.W.isFn K (.ref g7) = true) (ml7 : K.lookup g7 = some ⟨moc7, mod7, .func (PySem.W.fnOf "where" "Story.where" (defArgs sWhere) (defBody sWhere) (defScope sWhere) .none mkV7 mdc7 mpm7 man7 mcd7 mct7), msl7⟩) (mc7 : PySem.W.codeIn K mcd7 "Story.where" = true) (mk7 : PySem.W.keepIn K (.ref g7) = true)
    (ma8 : PySem.W.findIn K (.ref C) "need_name" = some (some (.ref g8))) (mi8 : PySem.W.isFn K (.ref g8) = true) (ml8 : K.lookup g8 = some ⟨moc8, mod8, .func (PySem.W.fnOf "need_name" "Story.need_name" (defArgs sNeed) (defBody sNeed) (defScope sNeed) .none mkV8 mdc8 mpm8 man8 mcd8 mct8), msl8⟩) (mc8 : PySem.W.codeIn K mcd8 "Story.need_name" = true) (mk8 : PySem.W.keepIn K (.ref g8) = true)
    (pg : PySem.W.plainGet K C Str.empty = true) (hasD : PySem.W.hasDictIn K C = true) (po : PySem.W.plainOver K C = true) (sa : PySem.W.findIn K (.ref C) "__setattr__" = some (some (.builtin "object.__setattr__"))) (mkC : PySem.W.makesIn K C = true) (kC : PySem.W.keepIn K (.ref C) = true)
    (nP : PySem.W.findIn K (.ref C) "plan" = some none)
    (nS : PySem.W.findIn K (.ref C) "shares" = some none)
    (nN : PySem.W.findIn K (.ref C) "names" = some none)
    (nR : PySem.W.findIn K (.ref C) "rows" = some none)
    (xa1 : PySem.W.nsIn K mainGlobals "KeeperThere" = some (some (.ref e1))) (xe1 : PySem.W.excIn K e1 [.type "ValueError", .type "Exception", .type "BaseException", .type "object"] "ValueError.__new__" = true)
    (xa2 : PySem.W.nsIn K mainGlobals "NoShare" = some (some (.ref e2))) (xe2 : PySem.W.excIn K e2 [.type "ValueError", .type "Exception", .type "BaseException", .type "object"] "ValueError.__new__" = true)
    (xa3 : PySem.W.nsIn K mainGlobals "NoKeeper" = some (some (.ref e3))) (xe3 : PySem.W.excIn K e3 [.type "ValueError", .type "Exception", .type "BaseException", .type "object"] "ValueError.__new__" = true)
    (xa4 : PySem.W.nsIn K mainGlobals "NameThere" = some (some (.ref e4))) (xe4 : PySem.W.excIn K e4 [.type "ValueError", .type "Exception", .type "BaseException", .type "object"] "ValueError.__new__" = true)
    (xa5 : PySem.W.nsIn K mainGlobals "NoName" = some (some (.ref e5))) (xe5 : PySem.W.excIn K e5 [.type "ValueError", .type "Exception", .type "BaseException", .type "object"] "ValueError.__new__" = true)
    (xm11 : PySem.W.mroIn K e1 (.ref e1) = some true)
    (xm12 : PySem.W.mroIn K e1 (.ref e2) = some false)
    (xm13 : PySem.W.mroIn K e1 (.ref e3) = some false)
    (xm14 : PySem.W.mroIn K e1 (.ref e4) = some false)
    (xm15 : PySem.W.mroIn K e1 (.ref e5) = some false)
    (xm21 : PySem.W.mroIn K e2 (.ref e1) = some false)
    (xm22 : PySem.W.mroIn K e2 (.ref e2) = some true)
    (xm23 : PySem.W.mroIn K e2 (.ref e3) = some false)
    (xm24 : PySem.W.mroIn K e2 (.ref e4) = some false)
    (xm25 : PySem.W.mroIn K e2 (.ref e5) = some false)
    (xm31 : PySem.W.mroIn K e3 (.ref e1) = some false)
    (xm32 : PySem.W.mroIn K e3 (.ref e2) = some false)
    (xm33 : PySem.W.mroIn K e3 (.ref e3) = some true)
    (xm34 : PySem.W.mroIn K e3 (.ref e4) = some false)
    (xm35 : PySem.W.mroIn K e3 (.ref e5) = some false)
    (xm41 : PySem.W.mroIn K e4 (.ref e1) = some false)
    (xm42 : PySem.W.mroIn K e4 (.ref e2) = some false)
    (xm43 : PySem.W.mroIn K e4 (.ref e3) = some false)
    (xm44 : PySem.W.mroIn K e4 (.ref e4) = some true)
    (xm45 : PySem.W.mroIn K e4 (.ref e5) = some false)
    (xm51 : PySem.W.mroIn K e5 (.ref e1) = some false)
    (xm52 : PySem.W.mroIn K e5 (.ref e2) = some false)
    (xm53 : PySem.W.mroIn K e5 (.ref e3) = some false)
    (xm54 : PySem.W.mroIn K e5 (.ref e4) = some false)
    (xm55 : PySem.W.mroIn K e5 (.ref e5) = some true)
    : ∃ fd : FuncData, (∀ (s : Shared) (v : Value), BindsTo s fd ⟨[v], []⟩ [("_law_script", v)]) ∧ ∀ base : Heap, K.In base → base.Ns mainGlobals mg → FnOk l.prog w K mg base CX0 10 fa fd ["_law_script"] (spLaw K) := by
  have e := hfa.symm.trans (PySem.W.mg_of X G a27)
  cases e
  have B : Blt mg := ⟨PySem.W.mg_none_of X G z1, PySem.W.mg_none_of X G z2, PySem.W.mg_none_of X G z3, PySem.W.mg_none_of X G z4, PySem.W.mg_none_of X G z5, PySem.W.mg_none_of X G z6, PySem.W.mg_none_of X G z7, PySem.W.mg_none_of X G z8, PySem.W.mg_none_of X G z9, PySem.W.mg_none_of X G z10⟩
  have hmin : mg "min" = none := PySem.W.mg_none_of X G z11
  have A1 := fn_mk (st := sPlace) (ps := ["size", "name"]) X G a1 l1 c1 k1 ((fun_mk (st := sPlace) l1 c1 k1).binds (ps := ["size", "name"]) fun _ _ _ _ _ _ us hl => by obtain ⟨_, _, rfl⟩ := len2 hl; rfl)
  have A2 := fn_mk (st := sPosts) (ps := ["size", "keeper", "share"]) X G a2 l2 c2 k2 ((fun_mk (st := sPosts) l2 c2 k2).binds (ps := ["size", "keeper", "share"]) fun _ _ _ _ _ _ us hl => by obtain ⟨_, _, _, rfl⟩ := len3 hl; rfl)
  have A3 := fn_mk (st := sSteps) (ps := ["size", "one", "other"]) X G a3 l3 c3 k3 ((fun_mk (st := sSteps) l3 c3 k3).binds (ps := ["size", "one", "other"]) fun _ _ _ _ _ _ us hl => by obtain ⟨_, _, _, rfl⟩ := len3 hl; rfl)
  have A4 := fn_mk (st := sCount) (ps := ["ordered", "place"]) X G a4 l4 c4 k4 ((fun_mk (st := sCount) l4 c4 k4).binds (ps := ["ordered", "place"]) fun _ _ _ _ _ _ us hl => by obtain ⟨_, _, rfl⟩ := len2 hl; rfl)
  have A5 := fn_mk (st := sAmong) (ps := ["size", "place", "ordered"]) X G a5 l5 c5 k5 ((fun_mk (st := sAmong) l5 c5 k5).binds (ps := ["size", "place", "ordered"]) fun _ _ _ _ _ _ us hl => by obtain ⟨_, _, _, rfl⟩ := len3 hl; rfl)
  have A6 := fn_mk (st := sPairs) (ps := ["size", "keepers", "names"]) X G a6 l6 c6 k6 ((fun_mk (st := sPairs) l6 c6 k6).binds (ps := ["size", "keepers", "names"]) fun _ _ _ _ _ _ us hl => by obtain ⟨_, _, _, rfl⟩ := len3 hl; rfl)
  have A7 := fn_mk (st := sRoom) (ps := ["each", "share"]) X G a7 l7 c7 k7 ((fun_mk (st := sRoom) l7 c7 k7).binds (ps := ["each", "share"]) fun _ _ _ _ _ _ us hl => by obtain ⟨_, _, rfl⟩ := len2 hl; rfl)
  have A8 := fn_mk (st := sRooms) (ps := ["each", "keepers"]) X G a8 l8 c8 k8 ((fun_mk (st := sRooms) l8 c8 k8).binds (ps := ["each", "keepers"]) fun _ _ _ _ _ _ us hl => by obtain ⟨_, _, rfl⟩ := len2 hl; rfl)
  have A9 := fn_mk (st := sDeal) (ps := ["plan", "keepers", "names"]) X G a9 l9 c9 k9 ((fun_mk (st := sDeal) l9 c9 k9).binds (ps := ["plan", "keepers", "names"]) fun _ _ _ _ _ _ us hl => by obtain ⟨_, _, _, rfl⟩ := len3 hl; rfl)
  have A10 := fn_mk (st := sMoves) (ps := ["before", "after"]) X G a10 l10 c10 k10 ((fun_mk (st := sMoves) l10 c10 k10).binds (ps := ["before", "after"]) fun _ _ _ _ _ _ us hl => by obtain ⟨_, _, rfl⟩ := len2 hl; rfl)
  have A11 := fn_mk (st := sDo) (ps := ["story", "deed"]) X G a11 l11 c11 k11 ((fun_mk (st := sDo) l11 c11 k11).binds (ps := ["story", "deed"]) fun _ _ _ _ _ _ us hl => by obtain ⟨_, _, rfl⟩ := len2 hl; rfl)
  have A12 := fn_mk (st := sAnswer) (ps := ["story", "deed"]) X G a12 l12 c12 k12 ((fun_mk (st := sAnswer) l12 c12 k12).binds (ps := ["story", "deed"]) fun _ _ _ _ _ _ us hl => by obtain ⟨_, _, rfl⟩ := len2 hl; rfl)
  have A13 := fn_mk (st := sAnswers) (ps := ["plan", "deeds"]) X G a13 l13 c13 k13 ((fun_mk (st := sAnswers) l13 c13 k13).binds (ps := ["plan", "deeds"]) fun _ _ _ _ _ _ us hl => by obtain ⟨_, _, rfl⟩ := len2 hl; rfl)
  have A14 := fn_mk (st := sAfter) (ps := ["plan", "deeds"]) X G a14 l14 c14 k14 ((fun_mk (st := sAfter) l14 c14 k14).binds (ps := ["plan", "deeds"]) fun _ _ _ _ _ _ us hl => by obtain ⟨_, _, rfl⟩ := len2 hl; rfl)
  have A15 := fn_mk (st := sSo) (ps := ["_law_found", "_law_meant"]) X G a15 l15 c15 k15 ((fun_mk (st := sSo) l15 c15 k15).binds (ps := ["_law_found", "_law_meant"]) fun _ _ _ _ _ _ us hl => by obtain ⟨_, _, rfl⟩ := len2 hl; rfl)
  have A16 := fn_mk (st := sWhole) (ps := ["_law_found"]) X G a16 l16 c16 k16 ((fun_mk (st := sWhole) l16 c16 k16).binds (ps := ["_law_found"]) fun _ _ _ _ _ _ us hl => by obtain ⟨_, rfl⟩ := len1 hl; rfl)
  have A17 := fn_mk (st := sAt) (ps := ["_law_script", "_law_k"]) X G a17 l17 c17 k17 ((fun_mk (st := sAt) l17 c17 k17).binds (ps := ["_law_script", "_law_k"]) fun _ _ _ _ _ _ us hl => by obtain ⟨_, _, rfl⟩ := len2 hl; rfl)
  have A18 := fn_mk (st := sFrom) (ps := ["_law_size", "_law_name", "_law_keeper", "_law_share"]) X G a18 l18 c18 k18 ((fun_mk (st := sFrom) l18 c18 k18).binds (ps := ["_law_size", "_law_name", "_law_keeper", "_law_share"]) fun _ _ _ _ _ _ us hl => by obtain ⟨_, _, _, _, rfl⟩ := len4 hl; rfl)
  have A19 := fn_mk (st := sPlan) (ps := ["_law_cell"]) X G a19 l19 c19 k19 ((fun_mk (st := sPlan) l19 c19 k19).binds (ps := ["_law_cell"]) fun _ _ _ _ _ _ us hl => by obtain ⟨_, rfl⟩ := len1 hl; rfl)
  have A20 := fn_mk (st := sOwnDeal) (ps := ["_law_plan", "_law_keepers", "_law_names"]) X G a20 l20 c20 k20 ((fun_mk (st := sOwnDeal) l20 c20 k20).binds (ps := ["_law_plan", "_law_keepers", "_law_names"]) fun _ _ _ _ _ _ us hl => by obtain ⟨_, _, _, rfl⟩ := len3 hl; rfl)
  have A21 := fn_mk (st := sAreRows) (ps := ["_law_found", "_law_names"]) X G a21 l21 c21 k21 ((fun_mk (st := sAreRows) l21 c21 k21).binds (ps := ["_law_found", "_law_names"]) fun _ _ _ _ _ _ us hl => by obtain ⟨_, _, rfl⟩ := len2 hl; rfl)
  have A22 := fn_mk (st := sOwnMoves) (ps := ["_law_before", "_law_after"]) X G a22 l22 c22 k22 ((fun_mk (st := sOwnMoves) l22 c22 k22).binds (ps := ["_law_before", "_law_after"]) fun _ _ _ _ _ _ us hl => by obtain ⟨_, _, rfl⟩ := len2 hl; rfl)
  have A23 := fn_mk (st := sAreMoves) (ps := ["_law_found"]) X G a23 l23 c23 k23 ((fun_mk (st := sAreMoves) l23 c23 k23).binds (ps := ["_law_found"]) fun _ _ _ _ _ _ us hl => by obtain ⟨_, rfl⟩ := len1 hl; rfl)
  have A24 := fn_mk (st := sDeedOf) (ps := ["_law_cell", "_law_k"]) X G a24 l24 c24 k24 ((fun_mk (st := sDeedOf) l24 c24 k24).binds (ps := ["_law_cell", "_law_k"]) fun _ _ _ _ _ _ us hl => by obtain ⟨_, _, rfl⟩ := len2 hl; rfl)
  have A25 := fn_mk (st := sDue) (ps := ["_law_hall", "_law_deed"]) X G a25 l25 c25 k25 ((fun_mk (st := sDue) l25 c25 k25).binds (ps := ["_law_hall", "_law_deed"]) fun _ _ _ _ _ _ us hl => by obtain ⟨_, _, rfl⟩ := len2 hl; rfl)
  have A26 := fn_mk (st := sAlike) (ps := ["_law_found", "_law_due"]) X G a26 l26 c26 k26 ((fun_mk (st := sAlike) l26 c26 k26).binds (ps := ["_law_found", "_law_due"]) fun _ _ _ _ _ _ us hl => by obtain ⟨_, _, rfl⟩ := len2 hl; rfl)
  have FL := fun_mk (st := sLaw) l27 c27 k27
  refine ⟨PySem.W.fnOf "law" "law" (defArgs sLaw) (defBody sLaw) (defScope sLaw) .none kV27 dc27 pm27 an27 cd27 ct27, fun s v => .of_eq rfl, fun base _ _ => ?_⟩
  have G1 := ok_place (P := l.prog) (w := w) (K := K) (mg := mg) (base := base) A1.F
  have G2 := ok_posts (P := l.prog) (w := w) (K := K) (mg := mg) (base := base) A2.F B.range
  have G3 := ok_steps (P := l.prog) (w := w) (K := K) (mg := mg) (base := base) A3.F
  have G5 := ok_among (P := l.prog) (w := w) (K := K) (mg := mg) (base := base) A5.F B.len A4 A3
  have G6 := ok_pairs (P := l.prog) (w := w) (K := K) (mg := mg) (base := base) A6.F B.sorted A5 A1 A2 G5 G1 G2
  have G7 := ok_room (P := l.prog) (w := w) (K := K) (mg := mg) (base := base) A7.F
  have G8 := ok_rooms (P := l.prog) (w := w) (K := K) (mg := mg) (base := base) A8.F A7 G7
  have G9 := ok_deal (P := l.prog) (w := w) (K := K) (mg := mg) (base := base) A9.F B.sorted A8 A6 G8 G6
  have G10 := ok_moves (P := l.prog) (w := w) (K := K) (mg := mg) (base := base) A10.F B
  have T : Txt K mg C := ⟨⟨pg, hasD, po, sa⟩, nP, nS, nN, nR, PySem.W.mg_of X G aC⟩
  have MF1 := fun_mk (st := sInit) ml1 mc1 mk1
  have mb1 := MF1.binds (ps := ["self", "plan"]) fun _ _ _ _ _ _ us hl => by obtain ⟨_, _, rfl⟩ := len2 hl; rfl
  have MF2 := fun_mk (st := sAnew) ml2 mc2 mk2
  have mb2 := MF2.binds (ps := ["self"]) fun _ _ _ _ _ _ us hl => by obtain ⟨_, rfl⟩ := len1 hl; rfl
  have MF3 := fun_mk (st := sCome) ml3 mc3 mk3
  have mb3 := MF3.binds (ps := ["self", "keeper", "share"]) fun _ _ _ _ _ _ us hl => by obtain ⟨_, _, _, rfl⟩ := len3 hl; rfl
  have MF4 := fun_mk (st := sLeave) ml4 mc4 mk4
  have mb4 := MF4.binds (ps := ["self", "keeper"]) fun _ _ _ _ _ _ us hl => by obtain ⟨_, _, rfl⟩ := len2 hl; rfl
  have MF5 := fun_mk (st := sPut) ml5 mc5 mk5
  have mb5 := MF5.binds (ps := ["self", "name"]) fun _ _ _ _ _ _ us hl => by obtain ⟨_, _, rfl⟩ := len2 hl; rfl
  have MF6 := fun_mk (st := sDrop) ml6 mc6 mk6
  have mb6 := MF6.binds (ps := ["self", "name"]) fun _ _ _ _ _ _ us hl => by obtain ⟨_, _, rfl⟩ := len2 hl; rfl
  have MF7 := fun_mk (st := sWhere) ml7 mc7 mk7
  have mb7 := MF7.binds (ps := ["self", "name"]) fun _ _ _ _ _ _ us hl => by obtain ⟨_, _, rfl⟩ := len2 hl; rfl
  have MF8 := fun_mk (st := sNeed) ml8 mc8 mk8
  have mb8 := MF8.binds (ps := ["self", "name"]) fun _ _ _ _ _ _ us hl => by obtain ⟨_, _, rfl⟩ := len2 hl; rfl
  have GI := ok_init (P := l.prog) (w := w) (K := K) (mg := mg) (base := base) MF1 T
  have GA := ok_anew (P := l.prog) (w := w) (K := K) (mg := mg) (base := base) MF2 T ⟨_, _, A9, G9⟩ ⟨_, _, A10, G10⟩
  have GN := ok_need (P := l.prog) (w := w) (K := K) (mg := mg) (base := base) MF8 T
  have Gc := ok_come (P := l.prog) (w := w) (K := K) (mg := mg) (base := base) MF3 T B ⟨ma2, mi2, mk2⟩ mb2 GA
  have Gl := ok_leave (P := l.prog) (w := w) (K := K) (mg := mg) (base := base) MF4 T B ⟨ma2, mi2, mk2⟩ mb2 GA
  have Gp := ok_put (P := l.prog) (w := w) (K := K) (mg := mg) (base := base) MF5 T B ⟨ma2, mi2, mk2⟩ mb2 GA
  have Gd := ok_drop (P := l.prog) (w := w) (K := K) (mg := mg) (base := base) MF6 T B ⟨ma2, mi2, mk2⟩ mb2 GA ⟨ma8, mi8, mk8⟩ mb8 GN
  have Gw := ok_where (P := l.prog) (w := w) (K := K) (mg := mg) (base := base) MF7 T B ⟨ma8, mi8, mk8⟩ mb8 GN
  have M : Meths l.prog w K mg base C := ⟨T, ⟨_, _, ⟨ma3, mi3, mk3⟩, mb3, Gc⟩, ⟨_, _, ⟨ma4, mi4, mk4⟩, mb4, Gl⟩, ⟨_, _, ⟨ma5, mi5, mk5⟩, mb5, Gp⟩, ⟨_, _, ⟨ma6, mi6, mk6⟩, mb6, Gd⟩, ⟨_, _, ⟨ma7, mi7, mk7⟩, mb7, Gw⟩, ⟨_, _, ⟨mkC, ma1, mi1, kC⟩, mb1, GI⟩⟩
  have X8 : Exs K mg (cOf e1 e2 e3 e4 e5) := exs_mk ⟨xe1⟩ ⟨xe2⟩ ⟨xe3⟩ ⟨xe4⟩ ⟨xe5⟩ (PySem.W.mg_of X G xa1) (PySem.W.mg_of X G xa2) (PySem.W.mg_of X G xa3) (PySem.W.mg_of X G xa4) (PySem.W.mg_of X G xa5) xm11 xm12 xm13 xm14 xm15 xm21 xm22 xm23 xm24 xm25 xm31 xm32 xm33 xm34 xm35 xm41 xm42 xm43 xm44 xm45 xm51 xm52 xm53 xm54 xm55
  have GNX := ok_needX (P := l.prog) (w := w) (K := K) (mg := mg) (base := base) MF8 T X8
  have GcX := ok_comeX (P := l.prog) (w := w) (K := K) (mg := mg) (base := base) MF3 T X8
  have GlX := ok_leaveX (P := l.prog) (w := w) (K := K) (mg := mg) (base := base) MF4 T X8
  have GpX := ok_putX (P := l.prog) (w := w) (K := K) (mg := mg) (base := base) MF5 T X8
  have GdX := ok_dropX (P := l.prog) (w := w) (K := K) (mg := mg) (base := base) MF6 T X8 ⟨ma8, mi8, mk8⟩ mb8 GNX
  have GwX := ok_whereX (P := l.prog) (w := w) (K := K) (mg := mg) (base := base) MF7 T X8 ⟨ma8, mi8, mk8⟩ mb8 GNX
  have M8 : MethsX l.prog w K mg base C (cOf e1 e2 e3 e4 e5) := ⟨T, ⟨_, _, ⟨ma3, mi3, mk3⟩, mb3, GcX⟩, ⟨_, _, ⟨ma4, mi4, mk4⟩, mb4, GlX⟩, ⟨_, _, ⟨ma5, mi5, mk5⟩, mb5, GpX⟩, ⟨_, _, ⟨ma6, mi6, mk6⟩, mb6, GdX⟩, ⟨_, _, ⟨ma7, mi7, mk7⟩, mb7, GwX⟩⟩
  have GoX := ok_doX (P := l.prog) (w := w) (K := K) (mg := mg) (base := base) A11.F M8
  have G11 := ok_do (P := l.prog) (w := w) (K := K) (mg := mg) (base := base) A11.F M
  have G12 := (ok_answer (P := l.prog) (w := w) (K := K) (mg := mg) (base := base) A12.F ⟨_, _, A11, G11⟩).or (ok_answerX (P := l.prog) (w := w) (K := K) (mg := mg) (base := base) A12.F X8 A11 GoX)
  have G13 := ok_answers (P := l.prog) (w := w) (K := K) (mg := mg) (base := base) A13.F M ⟨_, _, A12, G12⟩
  have G14 := ok_after (P := l.prog) (w := w) (K := K) (mg := mg) (base := base) A14.F B M ⟨_, _, A12, G12⟩
  have G15 := ok_so (P := l.prog) (w := w) (K := K) (mg := mg) (base := base) A15 B 3
  have G16 := ok_whole (P := l.prog) (w := w) (K := K) (mg := mg) (base := base) A16.F B
  have G17 := ok_at (P := l.prog) (w := w) (K := K) (mg := mg) (base := base) A17.F B
  have G18 := ok_from (P := l.prog) (w := w) (K := K) (mg := mg) (base := base) A18.F B
  have G19 := ok_plan (P := l.prog) (w := w) (K := K) (mg := mg) (base := base) A19.F B
  have G20 := ok_owndeal (P := l.prog) (w := w) (K := K) (mg := mg) (base := base) A20.F B ⟨_, _, A18, G18⟩
  have G21 := ok_arerows (P := l.prog) (w := w) (K := K) (mg := mg) (base := base) A21.F B ⟨_, _, A16, G16⟩
  have G22 := ok_ownmoves (P := l.prog) (w := w) (K := K) (mg := mg) (base := base) A22.F B
  have G23 := ok_aremoves (P := l.prog) (w := w) (K := K) (mg := mg) (base := base) A23.F B ⟨_, _, A16, G16⟩
  have G24 := ok_deedof (P := l.prog) (w := w) (K := K) (mg := mg) (base := base) A24.F B
  have G25 := ok_due (P := l.prog) (w := w) (K := K) (mg := mg) (base := base) A25.F B ⟨_, _, A20, G20⟩ ⟨_, _, A22, G22⟩
  have G26 := ok_alike (P := l.prog) (w := w) (K := K) (mg := mg) (base := base) A26.F B ⟨_, _, A16, G16⟩ ⟨_, _, A23, G23⟩
  exact ok_law FL B hmin ⟨_, _, A17, G17⟩ ⟨_, _, A19, G19⟩ ⟨_, _, A24, G24⟩ ⟨_, _, A13, G13⟩ ⟨_, _, A26, G26⟩ ⟨_, _, A25, G25⟩ ⟨_, _, A14, G14⟩ ⟨_, _, A21, G21⟩ ⟨_, _, A15, G15⟩
theorem walk {l : PySem.W.OpenLaw} {q : Program} {loose : List Str} {XP : (Str → Option Value) → Heap → Prop} {YP : World → Heap → Prop} {d : DefRec} {K : Params → PySem.W.Frag} (hn : l.most = some 63) (hdf : d.params.defaults = [])
    (hY : ∀ (w : World) (h : Heap), YP w h → (K w.params).In h)
    (F : ∀ (w : World) (mg : Str → Option Value) (fa : Addr) (h : Heap), (K w.params).In h → h.Ns mainGlobals mg → mg d.name = some (.ref fa) →
      ∃ fd : FuncData, (∀ (s : Shared) (u : Value), BindsTo s fd ⟨[u], []⟩ [("_law_script", u)]) ∧ ∀ base : Heap, (K w.params).In base → base.Ns mainGlobals mg → FnOk l.prog w (K w.params) mg base CX0 10 fa fd ["_law_script"] (spLaw (K w.params))) :
    PySem.W.WalkO q loose XP YP l.row.toRowW d [] (fun f vs => PySem.call f vs) :=
  L2.walk_of (n := 63) (k := 10) (x := "_law_script") (CX := fun _ => CX0) (sp := fun w => spLaw (K w.params)) hn (by decide) hdf ⟨rfl, by decide, by decide⟩ hY F (fun _ _ a ns hl _ hS => ⟨a, ns, rfl, hS, hl, fun _ => rfl⟩) fun _ _ _ _ _ z => z
end RK

noncomputable def PySem.W.Fast.tw14470537331673691727 : PySem.Program := PySem.Challenge.pw_ringdeal_k08_plain_story
theorem PySem.W.Fast.te14470537331673691727 : PySem.Challenge.pw_ringdeal_k08_plain_story = PySem.W.Fast.tw14470537331673691727 := rfl
def PySem.W.Fast.tw12915708003237191077 : Unit := ()
def PySem.W.Fast.tw17923901599351152225 : Unit := ()
def PySem.W.Fast.tw5092971815021155791 : Unit := ()
def PySem.W.Fast.tw751076489878915713 : Unit := ()
open PySem PySem.W PyProof.Rows
set_option maxRecDepth 100000 in
set_option maxHeartbeats 0 in
theorem PySem.Challenge.cw_ringdeal_k08_plain_story_holds : PySem.Challenge.rw_ringdeal_k08_plain_story.Holds := by
  w_on; o_law; o_head (kHook RK.KK [3, 20, 21, 25, 26, 32, 33, 39, 40, 46, 47, 51, 52, 58, 59, 65, 66, 70, 71, 75, 76, 85, 86, 98, 99, 110, 111, 122, 123, 134, 135, 146, 147, 162, 163, 169, 170, 176, 177, 183, 184, 190, 191, 197, 198, 204, 205, 211, 212, 214, 215, 225, 226, 232, 233, 237, 238, 244, 245, 251, 252, 258, 259, 265, 266, 272, 273, 279, 280, 284, 285, 289, 290, 294, 295, 301, 302, 308, 309, 313, 314, 320, 321, 325, 326] (fun _ => by kernel_rfl)); (case hw => w_witness2)
  k_fill
  refine RK.walk (l := PySem.Challenge.rw_ringdeal_k08_plain_story) rfl rfl (fun w h Y => PySem.W.kIn_of Y) ?F
  case F =>
    intro w mg fa h KX G hmg
    refine' RK.all_mk KX G hmg ?a1 ?l1 ?c1 ?k1 ?a2 ?l2 ?c2 ?k2 ?a3 ?l3 ?c3 ?k3 ?a4 ?l4 ?c4 ?k4 ?a5 ?l5 ?c5 ?k5 ?a6 ?l6 ?c6 ?k6 ?a7 ?l7 ?c7 ?k7 ?a8 ?l8 ?c8 ?k8 ?a9 ?l9 ?c9 ?k9 ?a10 ?l10 ?c10 ?k10 ?a11 ?l11 ?c11 ?k11 ?a12 ?l12 ?c12 ?k12 ?a13 ?l13 ?c13 ?k13 ?a14 ?l14 ?c14 ?k14 ?a15 ?l15 ?c15 ?k15 ?a16 ?l16 ?c16 ?k16 ?a17 ?l17 ?c17 ?k17 ?a18 ?l18 ?c18 ?k18 ?a19 ?l19 ?c19 ?k19 ?a20 ?l20 ?c20 ?k20 ?a21 ?l21 ?c21 ?k21 ?a22 ?l22 ?c22 ?k22 ?a23 ?l23 ?c23 ?k23 ?a24 ?l24 ?c24 ?k24 ?a25 ?l25 ?c25 ?k25 ?a26 ?l26 ?c26 ?k26 ?a27 ?l27 ?c27 ?k27 ?z1 ?z2 ?z3 ?z4 ?z5 ?z6 ?z7 ?z8 ?z9 ?z10 ?z11 ?aC ?ma1 ?mi1 ?ml1 ?mc1 ?mk1 ?ma2 ?mi2 ?ml2 ?mc2 ?mk2 ?ma3 ?mi3 ?ml3 ?mc3 ?mk3 ?ma4 ?mi4 ?ml4 ?mc4 ?mk4 ?ma5 ?mi5 ?ml5 ?mc5 ?mk5 ?ma6 ?mi6 ?ml6 ?mc6 ?mk6 ?ma7 ?mi7 ?ml7 ?mc7 ?mk7 ?ma8 ?mi8 ?ml8 ?mc8 ?mk8 ?pg ?hasD ?po ?sa ?mkC ?kC ?nP ?nS ?nN ?nR ?xa1 ?xe1 ?xa2 ?xe2 ?xa3 ?xe3 ?xa4 ?xe4 ?xa5 ?xe5 ?xm11 ?xm12 ?xm13 ?xm14 ?xm15 ?xm21 ?xm22 ?xm23 ?xm24 ?xm25 ?xm31 ?xm32 ?xm33 ?xm34 ?xm35 ?xm41 ?xm42 ?xm43 ?xm44 ?xm45 ?xm51 ?xm52 ?xm53 ?xm54 ?xm55
    case a1 => k_is
    case l1 => k_is
    case c1 => k_is
    case k1 => k_is
    case a2 => k_is
    case l2 => k_is
    case c2 => k_is
    case k2 => k_is
    case a3 => k_is
    case l3 => k_is
    case c3 => k_is
    case k3 => k_is
    case a4 => k_is
    case l4 => k_is
    case c4 => k_is
    case k4 => k_is
    case a5 => k_is
    case l5 => k_is
    case c5 => k_is
    case k5 => k_is
    case a6 => k_is
    case l6 => k_is
    case c6 => k_is
    case k6 => k_is
    case a7 => k_is
    case l7 => k_is
    case c7 => k_is
    case k7 => k_is
    case a8 => k_is
    case l8 => k_is
    case c8 => k_is
    case k8 => k_is
    case a9 => k_is
    case l9 => k_is
    case c9 => k_is
    case k9 => k_is
    case a10 => k_is
    case l10 => k_is
    case c10 => k_is
    case k10 => k_is
    case a11 => k_is
    case l11 => k_is
    case c11 => k_is
    case k11 => k_is
    case a12 => k_is
    case l12 => k_is
    case c12 => k_is
    case k12 => k_is
    case a13 => k_is
    case l13 => k_is
    case c13 => k_is
    case k13 => k_is
    case a14 => k_is
    case l14 => k_is
    case c14 => k_is
    case k14 => k_is
    case a15 => k_is
    case l15 => k_is
    case c15 => k_is
    case k15 => k_is
    case a16 => k_is
    case l16 => k_is
    case c16 => k_is
    case k16 => k_is
    case a17 => k_is
    case l17 => k_is
    case c17 => k_is
    case k17 => k_is
    case a18 => k_is
    case l18 => k_is
    case c18 => k_is
    case k18 => k_is
    case a19 => k_is
    case l19 => k_is
    case c19 => k_is
    case k19 => k_is
    case a20 => k_is
    case l20 => k_is
    case c20 => k_is
    case k20 => k_is
    case a21 => k_is
    case l21 => k_is
    case c21 => k_is
    case k21 => k_is
    case a22 => k_is
    case l22 => k_is
    case c22 => k_is
    case k22 => k_is
    case a23 => k_is
    case l23 => k_is
    case c23 => k_is
    case k23 => k_is
    case a24 => k_is
    case l24 => k_is
    case c24 => k_is
    case k24 => k_is
    case a25 => k_is
    case l25 => k_is
    case c25 => k_is
    case k25 => k_is
    case a26 => k_is
    case l26 => k_is
    case c26 => k_is
    case k26 => k_is
    case a27 => k_is
    case l27 => k_is
    case c27 => k_is
    case k27 => k_is
    case z1 => k_is
    case z2 => k_is
    case z3 => k_is
    case z4 => k_is
    case z5 => k_is
    case z6 => k_is
    case z7 => k_is
    case z8 => k_is
    case z9 => k_is
    case z10 => k_is
    case z11 => k_is
    case aC => k_is
    case ma1 => k_is
    case mi1 => k_is
    case ml1 => k_is
    case mc1 => k_is
    case mk1 => k_is
    case ma2 => k_is
    case mi2 => k_is
    case ml2 => k_is
    case mc2 => k_is
    case mk2 => k_is
    case ma3 => k_is
    case mi3 => k_is
    case ml3 => k_is
    case mc3 => k_is
    case mk3 => k_is
    case ma4 => k_is
    case mi4 => k_is
    case ml4 => k_is
    case mc4 => k_is
    case mk4 => k_is
    case ma5 => k_is
    case mi5 => k_is
    case ml5 => k_is
    case mc5 => k_is
    case mk5 => k_is
    case ma6 => k_is
    case mi6 => k_is
    case ml6 => k_is
    case mc6 => k_is
    case mk6 => k_is
    case ma7 => k_is
    case mi7 => k_is
    case ml7 => k_is
    case mc7 => k_is
    case mk7 => k_is
    case ma8 => k_is
    case mi8 => k_is
    case ml8 => k_is
    case mc8 => k_is
    case mk8 => k_is
    case pg => k_is
    case hasD => k_is
    case po => k_is
    case sa => k_is
    case mkC => k_is
    case kC => k_is
    case nP => k_is
    case nS => k_is
    case nN => k_is
    case nR => k_is
    case xa1 => k_is
    case xe1 => k_exc
    case xa2 => k_is
    case xe2 => k_exc
    case xa3 => k_is
    case xe3 => k_exc
    case xa4 => k_is
    case xe4 => k_exc
    case xa5 => k_is
    case xe5 => k_exc
    case xm11 => k_is
    case xm12 => k_is
    case xm13 => k_is
    case xm14 => k_is
    case xm15 => k_is
    case xm21 => k_is
    case xm22 => k_is
    case xm23 => k_is
    case xm24 => k_is
    case xm25 => k_is
    case xm31 => k_is
    case xm32 => k_is
    case xm33 => k_is
    case xm34 => k_is
    case xm35 => k_is
    case xm41 => k_is
    case xm42 => k_is
    case xm43 => k_is
    case xm44 => k_is
    case xm45 => k_is
    case xm51 => k_is
    case xm52 => k_is
    case xm53 => k_is
    case xm54 => k_is
    case xm55 => k_is
#print axioms PySem.Challenge.cw_ringdeal_k08_plain_story_holds
