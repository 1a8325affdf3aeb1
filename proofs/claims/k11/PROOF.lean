import PyProof.Rows.All
import Wide.All
import OpenK.AllK
import Wide.FinOn
import Lean
import PyProof.EqAt
import PyProof.EqKinds
import PyProof.TupleCall
import PyProof.Rows.SortShell
import PyProof.Dict
import PyProof.Rows.IntRules
import PyProof.WalkInts
import PyProof.NeKinds
import PyProof.AttrMissHeap
import PyProof.Rows.FStr
import PyProof.Rows.StrSplitAre
import PyProof.FString4
import PyProof.StrWalks
import PyProof.ExcArgsOwn
import PyProof.ConsumeWalk
import PyProof.Rows.CountFlat
import PyProof.RulesAs
import PyProof.StrLawsTight
import PyProof.StrLawsChain
import PyProof.StrLawsRepr
import PySem.Challenge.RW_ringdeal_k11_deals_on_lines
-- CHANGE: your row's module here, as the last of these rows
set_option Elab.async false
set_option linter.all false
set_option maxRecDepth 100000
/-! THE HAND LAYER, for ints, bools, texts, own classes, LISTS and tuples (index, slices, in, append, pop ..), calls, loops. Paste it whole ahead of your own text; what your proof does not reach may be deleted. -/
namespace L2
open PySem PySem.Spec PyProof.Rows
/-- a key: an int or a str -/
abbrev Key := Sum Int Str
def keyIs : Key → Value → Bool
  | .inl k, v => Value.isInt k v
  | .inr x, v => Value.isStrOf x v
def keyH (w : World) : Key → Int
  | .inl k => hashInt k
  | .inr x => hashStr w x
theorem keyIs_shape : ∀ {k : Key} {v : Value}, keyIs k v = true → (∃ i t, k = Sum.inl i ∧ v = Value.int i t) ∨ (∃ x t, k = Sum.inr x ∧ v = Value.str x t)
  | .inl i, v, h => by
    obtain ⟨t, e⟩ := Value.isInt_shape (k := i) (v := v) h
    exact .inl ⟨i, t, rfl, e⟩
  | .inr x, v, h => by
    obtain ⟨t, e⟩ := Value.isStrOf_shape (x := x) (v := v) h
    exact .inr ⟨x, t, rfl, e⟩
theorem keyIs_int (i : Int) (t : Tok) : keyIs (.inl i) (.int i t) = true := by simp [keyIs, Value.isInt]
theorem keyIs_str (x : Str) (t : Tok) : keyIs (.inr x) (.str x t) = true := by simp [keyIs, Value.isStrOf]
theorem key_ll (a b : Int) : decide ((Sum.inl a : Key) = Sum.inl b) = (a == b) := by
  by_cases e : a = b
  · subst e; simp
  · have h : ¬ (Sum.inl a : Key) = Sum.inl b := fun q => e (Sum.inl.inj q)
    rw [decide_eq_false h]
    exact (beq_eq_false_iff_ne.mpr e).symm
theorem key_rr (a b : Str) : decide ((Sum.inr a : Key) = Sum.inr b) = decide (a = b) := by
  by_cases e : a = b
  · subst e; simp
  · have h : ¬ (Sum.inr a : Key) = Sum.inr b := fun q => e (Sum.inr.inj q)
    rw [decide_eq_false h, decide_eq_false e]
theorem key_lr (a : Int) (b : Str) : decide ((Sum.inl a : Key) = Sum.inr b) = false := decide_eq_false (fun q => nomatch q)
theorem key_rl (a : Str) (b : Int) : decide ((Sum.inr a : Key) = Sum.inl b) = false := decide_eq_false (fun q => nomatch q)
def mixKind (prog : Program) (w : World) : PySem.KeyKind prog w Key where
  is := keyIs
  hash := keyH w
  inj := fun v a b ha hb => by
    rcases keyIs_shape ha with ⟨i, t, rfl, rfl⟩ | ⟨x, t, rfl, rfl⟩
    · rcases keyIs_shape hb with ⟨j, u, rfl, e⟩ | ⟨y, u, rfl, e⟩
      · injection e with e1 _; rw [e1]
      · exact nomatch e
    · rcases keyIs_shape hb with ⟨j, u, rfl, e⟩ | ⟨y, u, rfl, e⟩
      · exact nomatch e
      · injection e with e1 _; rw [e1]
  byValue := fun k v h => by
    rcases keyIs_shape h with ⟨i, t, rfl, rfl⟩ | ⟨x, t, rfl, rfl⟩ <;> rfl
  pyHash := fun hv h => by
    rcases keyIs_shape hv with ⟨i, t, rfl, rfl⟩ | ⟨x, t, rfl, rfl⟩
    · exact wpAny_pyHash_int h
    · exact wpAny_pyHash_str h
  eqBool := fun hu hv h => by
    rcases keyIs_shape hu with ⟨i, t, rfl, rfl⟩ | ⟨x, t, rfl, rfl⟩
    · rcases keyIs_shape hv with ⟨j, u, rfl, rfl⟩ | ⟨y, u, rfl, rfl⟩
      · rw [key_ll] at h; exact wpAny_eqBool_int h
      · rw [key_lr] at h; exact SeqAt.EqAt.int_str i t y u _ _ _ _ h
    · rcases keyIs_shape hv with ⟨j, u, rfl, rfl⟩ | ⟨y, u, rfl, rfl⟩
      · rw [key_rl] at h; exact SeqAt.EqAt.str_int x t j u _ _ _ _ h
      · rw [key_rr] at h; exact wpAny_eqBool_str h
  «strs» := fun k x t v h => by
    rcases keyIs_shape h with ⟨i, u, rfl, e⟩ | ⟨y, u, rfl, e⟩
    · exact nomatch e
    · injection e with e1 _
      subst e1
      cases v <;> rfl
theorem mixKind_int (prog : Program) (w : World) (i : Int) (t : Tok) : (mixKind prog w).is (.inl i) (.int i t) = true := keyIs_int i t
theorem mixKind_str (prog : Program) (w : World) (x : Str) (t : Tok) : (mixKind prog w).is (.inr x) (.str x t) = true := keyIs_str x t
end L2
namespace L2
open PySem PySem.Spec PyProof.Rows
/-- a value, without the heap -/
inductive V where
  | non | bl (b : Bool) | int (i : Int) | str (x : Str) | byt (b : Array UInt8) | flt (b : UInt64) | ref (a : Addr) | ty (n : String)
  deriving DecidableEq
def RelV : V → Value → Prop
  | .non, u => u = Value.none
  | .bl b, u => u = Value.bool b
  | .int i, u => ∃ t, u = Value.int i t
  | .str x, u => ∃ t, u = Value.str x t
  | .byt b, u => ∃ t, u = Value.bytes b t
  | .flt b, u => ∃ t, u = Value.float b t
  | .ref a, u => u = Value.ref a
  | .ty n, u => u = Value.type n
abbrev Vals : List V → List Value → Prop := Paired RelV
theorem Vals.length {xs : List V} {us : List Value} (r : Vals xs us) : xs.length = us.length := Paired.length r
theorem Vals.get : ∀ {xs : List V} {us : List Value} {i : Nat} {x : V}, Vals xs us → xs[i]? = some x → ∃ u, us[i]? = some u ∧ RelV x u
  | _, _, _, _, .nil, e => by simp at e
  | _, _, 0, _, .cons r _, e => by simp at e; subst e; exact ⟨_, rfl, r⟩
  | _, _, i + 1, x, .cons _ t, e => by
    obtain ⟨u, h1, h2⟩ := Vals.get (i := i) (x := x) t (by simpa using e)
    exact ⟨u, by simpa using h1, h2⟩
theorem Vals.append : ∀ {xs ys : List V} {us ws : List Value}, Vals xs us → Vals ys ws → Vals (xs ++ ys) (us ++ ws)
  | _, _, _, _, .nil, s => s
  | _, _, _, _, .cons r t, s => .cons r (Vals.append t s)
theorem Vals.take : ∀ {xs : List V} {us : List Value} (n : Nat), Vals xs us → Vals (xs.take n) (us.take n)
  | _, _, 0, _ => .nil
  | _, _, _ + 1, .nil => .nil
  | _, _, n + 1, .cons r t => .cons r (Vals.take n t)
theorem Vals.drop : ∀ {xs : List V} {us : List Value} (n : Nat), Vals xs us → Vals (xs.drop n) (us.drop n)
  | _, _, 0, r => r
  | _, _, _ + 1, .nil => .nil
  | _, _, n + 1, .cons _ t => Vals.drop n t
def RelO : Option V → Option Value → Prop
  | some v, some u => RelV v u
  | none, none => True
  | _, _ => False
def KV {κ : Type} : List (κ × V) → List (κ × Value) → Prop := Paired fun (p : κ × V) (q : κ × Value) => p.1 = q.1 ∧ RelV p.2 q.2
/-- a key of a dict (00_mix): an int or a text -/
def kV : Key → V
  | .inl i => .int i
  | .inr x => .str x
/-- what stands at a tracked address -/
inductive HO where
  /-- a list -/
  | lst (xs : List V)
  /-- a tuple (never changes) -/
  | tup (xs : List V)
  /-- a dict whose keys are ints and texts; one whose keys are tuples of ints and texts (the empty one is both) -/
  | dK (kvs : List (Key × V)) | dT (kvs : List (List Key × V))
  /-- a set of ints: its members, its size -/
  | set (S : Int → Bool) (n : Nat)
  /-- an instance of the class at C, its dict at dx, its attributes -/
  | ins (C dx : Addr) (fs : List (Str × V))
  /-- the dict of the instance at x -/
  | own (x : Addr)
  /-- the dict of an exception -/
  | xd (fs : List (Str × V))
  /-- a bound method, f of x -/
  | met (f x : Addr)
  /-- a range object lo, lo + 1, .. below hi -/
  | rng (lo hi : Int)
  /-- a thing that is known to the object (the script; a dict while a loop walks it): read, never written while it is so -/
  | frz (o : Obj) (u : HO)
  /-- a code object's table -/
  | tbl (ps : Array Value)
  /-- any other thing, by what is true of its one object (a def of one's own: SetO a S n := HO.ext fun h => ..) -/
  | ext (φ : Heap → Prop)
abbrev Hp := Addr → Option HO
def upd (H : Hp) (a : Addr) (o : HO) : Hp := fun b => if b = a then some o else H b
theorem upd_same {H : Hp} {a : Addr} {o : HO} : upd H a o a = some o := by unfold upd; rw [if_pos rfl]
theorem upd_ne {H : Hp} {a b : Addr} {o : HO} (h : b ≠ a) : upd H a o b = H b := by unfold upd; rw [if_neg h]
theorem upd_upd {H : Hp} {a : Addr} {o u : HO} : upd (upd H a o) a u = upd H a u := by
  funext b; unfold upd; split <;> rfl
/-- two objects of different content stand apart -/
theorem ne_of {H : Hp} {a b : Addr} {o u : HO} (h : H a = some o) (h' : H b = some u) (d : o ≠ u) : a ≠ b := by
  intro e; subst e; rw [h] at h'; exact d (Option.some.inj h')
theorem ne_of_none {H : Hp} {a b : Addr} {o : HO} (h : H a = some o) (h' : H b = none) : a ≠ b := by
  intro e; subst e; rw [h] at h'; cases h'
section
variable (P : Program) (w : World)
def ObjOk (H : Hp) (h : Heap) (a : Addr) : HO → Prop
  | .lst xs => xs.length ≤ sizeLine ∧ ∃ (its : List Value) (n : Nat), Vals xs its ∧ h.get? a = some { cls := .type "list", data := .seq its.toArray n }
  | .tup xs => xs.length ≤ sizeLine ∧ ∃ its : List Value, Vals xs its ∧ IsTup h a its.toArray
  | .dK kvs => kvs.length ≤ sizeLine ∧ (a == sysModules) = false ∧ ∃ vs, KV kvs vs ∧ h.DictOf (mixKind P w) a vs
  | .dT kvs => kvs.length ≤ sizeLine ∧ (a == sysModules) = false ∧ ∃ xs : List (List Key × Addr × Value),
      Paired (fun (p : List Key × V) (q : List Key × Addr × Value) => p.1 = q.1 ∧ H q.2.1 = some (.tup (p.1.map kV)) ∧ RelV p.2 q.2.2) kvs xs ∧
      ∃ o es ep, h.get? a = some o ∧ o.ExactDict ∧ o.data = .dict es ep ∧ es.toList = xs.map (entryOfKey (tupleKind (mixKind P w))) ∧ (xs.map (·.1)).Nodup
  | .set S n => h.SetOf (intKind P w) a S n
  | .ins C dx fs => H dx = some (.own a) ∧ fs.length ≤ 1000 ∧ dx ≠ a ∧ h.get? a = some (PySem.W.instObj C dx) ∧
      ∃ mA, h.Ns1 dx mA ∧ (∀ f, RelO (fs.lookup f) (mA f)) ∧ PySem.Within mA (fs.map (·.1))
  | .own _ => ∃ o, h.get? a = some o
  | .xd fs => ∃ mA, h.Ns1 a mA ∧ ∀ f, RelO (fs.lookup f) (mA f)
  | .rng lo hi => ∃ t u v, h.get? a = some { cls := .type "range", data := .fields #[.int lo t, .int hi u, .int 1 v] }
  | .frz o u => h.get? a = some o ∧ ObjOk H h a u
  | .tbl ps => h.get? a = some { cls := .none, data := .fields ps }
  | .met f x => h.get? a = some (PySem.W.methodObj (.ref f) (.ref x))
  | .ext φ => φ h ∧ (∃ o, h.get? a = some o) ∧ ∀ h1 h2 : Heap, φ h1 → (∀ o, h1.get? a = some o → h2.get? a = some o) → φ h2
/-- the abstract heap is held -/
def HOk (H : Hp) (h : Heap) : Prop := ∀ a o, H a = some o → ObjOk P w H h a o
end
section
variable {P : Program} {w : World} {H H' : Hp} {h h' : Heap} {a : Addr} {o : HO}
theorem ObjOk.lt (x : ObjOk P w H h a o) : a < h.objs.size := by
  cases o with
  | lst xs => obtain ⟨_, _, _, _, e⟩ := x; exact Heap.lt_size e
  | tup xs => obtain ⟨_, _, _, p⟩ := x; exact p.lt
  | dK kvs => obtain ⟨_, _, _, _, o, _, _, e, _⟩ := x; exact Heap.lt_size e
  | dT kvs => obtain ⟨_, _, _, _, o, _, _, e, _⟩ := x; exact Heap.lt_size e
  | set S n => obtain ⟨o, _, _, _, e, _⟩ := x; exact Heap.lt_size e
  | ins C dx fs => obtain ⟨_, _, _, e, _⟩ := x; exact Heap.lt_size e
  | own y => obtain ⟨_, e⟩ := x; exact Heap.lt_size e
  | xd fs => obtain ⟨_, ⟨_, _, _, e, _⟩, _⟩ := x; exact Heap.lt_size e
  | rng lo hi => obtain ⟨_, _, _, e⟩ := x; exact Heap.lt_size e
  | frz ob u => obtain ⟨e, _⟩ := x; exact Heap.lt_size e
  | tbl ps => exact Heap.lt_size (show h.get? a = some _ from x)
  | met f y => exact Heap.lt_size (show h.get? a = some _ from x)
  | ext φ => obtain ⟨_, ⟨_, e⟩, _⟩ := x; exact Heap.lt_size e
theorem Paired.mapP {α β : Type} {F G : α → β → Prop} : ∀ {l₁ : List α} {l₂ : List β}, Paired F l₁ l₂ → (∀ a b, F a b → G a b) → Paired G l₁ l₂
  | _, _, .nil, _ => .nil
  | _, _, .cons r t, f => .cons (f _ _ r) (Paired.mapP t f)
/-- what an object's description leans on: its own object, its own dict, the tuples -/
theorem ObjOk.stay (x : ObjOk P w H h a o) (k : ∀ b u, (b = a ∨ H b = some (.own a)) → h.get? b = some u → h'.get? b = some u)
    (ho : ∀ b, H b = some (.own a) → H' b = some (.own a)) (ht : ∀ b xs, H b = some (.tup xs) → H' b = some (.tup xs)) : ObjOk P w H' h' a o := by
  induction o with
  | lst xs => obtain ⟨z, its, n, r, e⟩ := x; exact ⟨z, its, n, r, k _ _ (.inl rfl) e⟩
  | tup xs => obtain ⟨z, its, r, ob, e, c⟩ := x; exact ⟨z, its, r, ob, k _ _ (.inl rfl) e, c⟩
  | dK kvs => obtain ⟨z, y, vs, r, ob, es, ep, e, c⟩ := x; exact ⟨z, y, vs, r, ob, es, ep, k _ _ (.inl rfl) e, c⟩
  | dT kvs =>
    obtain ⟨z, y, xs, r, ob, es, ep, e, c⟩ := x
    exact ⟨z, y, xs, Paired.mapP r fun p q z => ⟨z.1, ht _ _ z.2.1, z.2.2⟩, ob, es, ep, k _ _ (.inl rfl) e, c⟩
  | set S n => obtain ⟨ob, es, ep, t, e, c⟩ := x; exact ⟨ob, es, ep, t, k _ _ (.inl rfl) e, c⟩
  | ins C dx fs =>
    obtain ⟨d, z, ne, e, mA, ⟨od, es, ep, e2, c⟩, r⟩ := x
    exact ⟨ho _ d, z, ne, k _ _ (.inl rfl) e, mA, ⟨od, es, ep, k _ _ (.inr d) e2, c⟩, r⟩
  | own y => obtain ⟨ob, e⟩ := x; exact ⟨ob, k _ _ (.inl rfl) e⟩
  | xd fs => obtain ⟨mA, ⟨od, es, ep, e, c⟩, r⟩ := x; exact ⟨mA, ⟨od, es, ep, k _ _ (.inl rfl) e, c⟩, r⟩
  | rng lo hi => obtain ⟨t, u, v, e⟩ := x; exact ⟨t, u, v, k _ _ (.inl rfl) e⟩
  | frz ob u ih => obtain ⟨e, q⟩ := x; exact ⟨k _ _ (.inl rfl) e, ih q⟩
  | tbl ps =>
    have e : h.get? a = some { cls := .none, data := .fields ps } := x
    show h'.get? a = some { cls := .none, data := .fields ps }
    exact k a _ (.inl rfl) e
  | met f y =>
    have e : h.get? a = some (PySem.W.methodObj (.ref f) (.ref y)) := x
    show h'.get? a = some (PySem.W.methodObj (.ref f) (.ref y))
    exact k a _ (.inl rfl) e
  | ext φ => obtain ⟨p, ⟨o, e⟩, st⟩ := x; exact ⟨st _ _ p fun o q => k _ _ (.inl rfl) q, ⟨o, k _ _ (.inl rfl) e⟩, st⟩
theorem HOk.lt (x : HOk P w H h) (e : H a = some o) : a < h.objs.size := (x a o e).lt
theorem HOk.fresh (x : HOk P w H h) (e : h.objs.size ≤ a) : H a = none := by
  cases q : H a with
  | none => rfl
  | some u => exact absurd (Nat.lt_of_lt_of_le (x.lt q) e) (Nat.lt_irrefl _)
/-- every object of the heap is kept -/
theorem HOk.kept (x : HOk P w H h) (k : ∀ b u, h.get? b = some u → h'.get? b = some u) : HOk P w H h' := fun a o e =>
  (x a o e).stay (fun b u _ q => k b u q) (fun _ q => q) fun _ _ q => q
/-- a new object is laid and tracked -/
theorem HOk.laid (x : HOk P w H h) (k : ∀ b u, h.get? b = some u → h'.get? b = some u) (hp : h.objs.size ≤ a) (new : ObjOk P w (upd H a o) h' a o) : HOk P w (upd H a o) h' := fun b u e => by
  have hn := x.fresh hp
  by_cases hb : b = a
  · subst hb; rw [upd_same] at e; cases e; exact new
  · rw [upd_ne hb] at e
    exact (x b u e).stay (fun c v _ q => k c v q) (fun c q => by rw [upd_ne (ne_of_none q hn)]; exact q) fun c xs q => by rw [upd_ne (ne_of_none q hn)]; exact q
end
/-- what may be read as u: it is u, or a known u -/
def Rd (H : Hp) (a : Addr) (u : HO) : Prop := H a = some u ∨ ∃ o, H a = some (.frz o u)
theorem Rd.ok {P : Program} {w : World} {H : Hp} {h : Heap} {a : Addr} {u : HO} (r : Rd H a u) (x : HOk P w H h) : ObjOk P w H h a u := by
  rcases r with r | ⟨o, r⟩
  · exact x a u r
  · obtain ⟨_, q⟩ := x a _ r
    exact q
/-- what may be written -/
def Mut : Option HO → Prop
  | some (.lst _) => True
  | some (.dK _) => True
  | some (.dT _) => True
  | some (.set _ _) => True
  | some (.ins _ _ _) => True
  | some (.ext _) => True
  | _ => False
section
variable {P : Program} {w : World} {H : Hp} {h h' : Heap} {x e : Addr} {o' : HO}
/-- the object at e is changed: x itself, or the dict of the instance x -/
theorem HOk.write (ok : HOk P w H h) (mu : Mut (H x)) (he : e = x ∨ H e = some (.own x)) (k : ∀ b u, b ≠ e → h.get? b = some u → h'.get? b = some u) (heo : ∃ u, h'.get? e = some u)
    (new : ObjOk P w (upd H x o') h' x o') : HOk P w (upd H x o') h' := fun b u q => by
  have nown : ∀ c y, H c = some (.own y) → c ≠ x := fun c y r z => by subst z; rw [r] at mu; exact mu
  have ntup : ∀ c xs, H c = some (.tup xs) → c ≠ x := fun c xs r z => by subst z; rw [r] at mu; exact mu
  by_cases hb : b = x
  · subst hb; rw [upd_same] at q; cases q; exact new
  · rw [upd_ne hb] at q
    by_cases hbe : b = e
    · have q' : H b = some (.own x) := by
        rcases he with z | z
        · exact absurd (hbe.trans z) hb
        · rw [hbe]; exact z
      rw [q] at q'; cases q'
      obtain ⟨v, hv⟩ := heo
      exact ⟨v, by rw [hbe]; exact hv⟩
    · refine (ok b u q).stay (fun c v hc r => k c v ?_ r) (fun c r => by rw [upd_ne (nown c b r)]; exact r) fun c xs r => by rw [upd_ne (ntup c xs r)]; exact r
      rcases hc with rfl | hc
      · exact hbe
      · rintro rfl
        rcases he with z | z
        · exact nown c b hc z
        · rw [hc] at z; cases z; exact hb rfl
end
/-! ### kept unless tracked; of the frames at fs (the callers') the slots may change (an exception that passes writes there); of the records at ex (iterators) nothing is said -/
structure Un (fs ex : List Addr) (H H' : Hp) (h h' : Heap) : Prop where
  keep : ∀ b o, h.get? b = some o → H b = none → b ∉ fs → b ∉ ex → h'.get? b = some o
  slot : ∀ b o, h.get? b = some o → H b = none → b ∈ fs → b ∉ ex → ∃ sl, h'.get? b = some { o with slots := sl }
  free : ∀ b o, h.get? b = some o → H b = none → b ∉ ex → H' b = none
  there : ∀ b o, h.get? b = some o → b ∉ ex → ∃ o', h'.get? b = some o'
  tups : ∀ b xs, H b = some (.tup xs) → H' b = some (.tup xs)
  frzs : ∀ b o u, H b = some (.frz o u) → H' b = some (.frz o u)
  tbls : ∀ b ps, H b = some (.tbl ps) → ∃ more, H' b = some (.tbl (ps ++ more))
section
variable {fs fs' ex ex' : List Addr} {H H1 H2 : Hp} {h h1 h2 h' : Heap} {a x e : Addr} {o : HO}
theorem Un.any (u : Un fs ex H H1 h h1) {b : Addr} {ob : Obj} (q : h.get? b = some ob) (n : H b = none) (hx : b ∉ ex) : ∃ sl, h1.get? b = some { ob with slots := sl } := by
  by_cases hb : b ∈ fs
  · exact u.slot b ob q n hb hx
  · exact ⟨ob.slots, u.keep b ob q n hb hx⟩
theorem Un.kept (k : ∀ b u, h.get? b = some u → h'.get? b = some u) : Un fs ex H H h h' :=
  ⟨fun b ob q _ _ _ => k b ob q, fun b ob q _ _ _ => ⟨ob.slots, k b ob q⟩, fun _ _ _ n _ => n, fun b ob q _ => ⟨ob, k b ob q⟩, fun _ _ q => q, fun _ _ _ q => q, fun _ ps q => ⟨#[], by rw [q]; simp⟩⟩
theorem Un.refl : Un fs ex H H h h := Un.kept fun _ _ q => q
theorem Un.laid (k : ∀ b u, h.get? b = some u → h'.get? b = some u) (hp : h.objs.size ≤ a) (hn : H a = none) : Un fs ex H (upd H a o) h h' where
  keep := fun b u q _ _ _ => k b u q
  slot := fun b u q _ _ _ => ⟨u.slots, k b u q⟩
  free := fun b u q n _ => by rw [upd_ne (Nat.ne_of_lt (Nat.lt_of_lt_of_le (Heap.lt_size q) hp))]; exact n
  there := fun b u q _ => ⟨u, k b u q⟩
  tups := fun b xs q => by rw [upd_ne (ne_of_none q hn)]; exact q
  frzs := fun b u xs q => by rw [upd_ne (ne_of_none q hn)]; exact q
  tbls := fun b ps q => ⟨#[], by rw [upd_ne (ne_of_none q hn), q]; simp⟩
theorem Un.write (mu : Mut (H x)) (he : e = x ∨ H e = some (.own x)) (k : ∀ b u, b ≠ e → h.get? b = some u → h'.get? b = some u) (heo : ∃ u, h'.get? e = some u) : Un fs ex H (upd H x o) h h' := by
  have hx : ∀ b, H b = none → b ≠ x := fun b n z => by subst z; rw [n] at mu; exact mu
  have hb : ∀ b, H b = none → b ≠ e := fun b n z => by
    subst z
    rcases he with r | r
    · exact hx b n r
    · rw [n] at r; cases r
  have hm : ∀ b u, H b = some u → ¬ Mut (some u) → b ≠ x := fun b u q nm z => by subst z; rw [q] at mu; exact nm mu
  refine ⟨fun b u q n _ _ => k b u (hb b n) q, fun b u q n _ _ => ⟨u.slots, k b u (hb b n) q⟩, fun b u q n _ => by rw [upd_ne (hx b n)]; exact n, fun b u q _ => ?_,
    fun b xs q => by rw [upd_ne (hm b _ q fun z => z)]; exact q, fun b u xs q => by rw [upd_ne (hm b _ q fun z => z)]; exact q, fun b ps q => ⟨#[], by rw [upd_ne (hm b _ q fun z => z), q]; simp⟩⟩
  by_cases hbe : b = e
  · subst hbe; exact heo
  · exact ⟨u, k b u hbe q⟩
end
/-! ### the heap without what is tracked -/
def trk (h : Heap) (H : Hp) : List Addr := (List.range h.objs.size).filter fun a => (H a).isSome
def hidT (h : Heap) (H : Hp) : Heap := PySem.W.hideAll h (trk h H)
theorem hidT_size (h : Heap) (H : Hp) : (hidT h H).objs.size = h.objs.size := PySem.W.hideAll_size _ _
theorem hidT_get {h : Heap} {H : Hp} {b : Addr} {o : Obj} (e : h.get? b = some o) (n : H b = none) : (hidT h H).get? b = some o :=
  PySem.W.hideAll_get _ e fun hm => by
    have q : (H b).isSome = true := (List.mem_filter.mp hm).2
    rw [n] at q; simp at q
theorem of_hidT {h : Heap} {H : Hp} {b : Addr} {o : Obj} (e : (hidT h H).get? b = some o) : h.get? b = some o ∧ H b = none := by
  have e' : h.get? b = some o := PySem.W.of_hideAll (trk h H) e
  refine ⟨e', ?_⟩
  cases q : H b with
  | none => rfl
  | some x =>
    have hm : b ∈ trk h H := List.mem_filter.mpr ⟨List.mem_range.mpr (Heap.lt_size e'), by simp [q]⟩
    have z : (hidT h H).get? b = none := PySem.W.hideAll_none (trk h H) hm
    rw [z] at e; cases e
/-! ### OpenK's ledger, filled with every new object but one -/
def allNews (g h : Heap) (L : Addr) : List (Addr × Obj) := (List.range h.objs.size).filterMap fun a => if a = L ∨ (g.get? a).isSome = true then none else (h.get? a).map fun o => (a, o)
theorem mem_allNews {g h : Heap} {L a : Addr} {o : Obj} (h1 : a ≠ L) (h2 : g.get? a = none) (h3 : h.get? a = some o) : (a, o) ∈ allNews g h L :=
  List.mem_filterMap.mpr ⟨a, List.mem_range.mpr (Heap.lt_size h3), by simp [h1, h2, h3]⟩
theorem of_mem_allNews {g h : Heap} {L : Addr} {p : Addr × Obj} (hp : p ∈ allNews g h L) : p.1 ≠ L ∧ g.get? p.1 = none ∧ h.get? p.1 = some p.2 := by
  obtain ⟨b, _, e⟩ := List.mem_filterMap.mp hp
  split at e
  · cases e
  · rename_i hn
    cases q : h.get? b with
    | none => rw [q] at e; simp at e
    | some u =>
      rw [q] at e
      simp only [Option.map_some, Option.some.injEq] at e
      subst e
      refine ⟨fun z => hn (.inl z), ?_, q⟩
      show g.get? b = none
      cases r : g.get? b with
      | none => rfl
      | some v => exact (hn (.inr (by simp [r]))).elim
theorem news_all {g h : Heap} {L : Addr} : News g L h (allNews g h L) := fun p hp => let ⟨a, b, c⟩ := of_mem_allNews hp; ⟨c, a, b⟩
end L2
namespace L2
open PySem PySem.Spec PyProof.Rows
/-- the module's facts, over the base: the heap at the law's entry without what is tracked there -/
structure Mod (K : PySem.W.Frag) (mg : Str → Option Value) (base : Heap) : Prop where
  kin : K.In base
  glob : base.Ns mainGlobals mg
  blt : ∃ mb, base.Ns builtinsNs mb ∧ ∀ x : Str, x ≠ "__name__" → mb x = bootBuiltins x
  nolimit : base.NoLimit
/-- the context: a def's body (or a comprehension's block) running. base: fixed through the whole law; s₀, H₀: the entry; outer: the frames whose slots others may change (a def's callers); stack: all frames that run;
   ex: iterators that were made ahead of the entry and are walked here (a comprehension's); fn: the names whose cells were made at the entry (a def: all; a comprehension's block: its own); calm: not within an except suite; pn: pins that every state bears; xe: what is wanted of an exception that leaves the code -/
structure Cx where
  prog : Program
  w : World
  K : PySem.W.Frag
  mg : Str → Option Value
  base : Heap
  A : Around
  N : List Str
  s₀ : Shared
  H₀ : Hp
  env : Env
  outer : List Env
  stack : List Env
  ex : List Addr
  fn : Str → Bool
  calm : Bool
  pn : List (Addr × Obj)
  xe : Value → Shared → Prop
/-- the callers' frames -/
def frs (l : List Env) : List Addr := l.filterMap (·.frame)
abbrev Cx.fs (X : Cx) : List Addr := frs X.outer
def Vis (sc : Scope) (x : Str) : Prop := sc.names.lookup x = some .local ∨ sc.names.lookup x = some .cell ∨ sc.names.lookup x = some .free
def Loc (sc : Scope) (x : Str) : Prop := sc.names.lookup x = some .local ∨ sc.names.lookup x = some .cell
def Look (env : Env) (h : Heap) (m : Str → Option Value) (x : Str) (u : Value) : Prop :=
  (env.kindOf x = some .local ∧ m x = some u) ∨ ((env.kindOf x = some .cell ∨ env.kindOf x = some .free) ∧ ∃ c, env.cells.lookup x = some c ∧ h.IsCell c (some u))
structure Cx.Ok (X : Cx) : Prop where
  mod : Mod X.K X.mg X.base
  kind : X.env.scope.kind = .function
  glob : X.env.globals = mainGlobals
  blt : X.env.builtins = builtinsNs
  above : X.s₀.heap.objs.size ≤ X.env.locals
  inj : ∀ x y c, X.env.cells.lookup x = some c → X.env.cells.lookup y = some c → x = y
  has : ∀ x, (X.env.kindOf x = some .cell ∨ X.env.kindOf x = some .free) → ∃ c, X.env.cells.lookup x = some c
  cab : ∀ x c, X.fn x = true → X.env.cells.lookup x = some c → X.s₀.heap.objs.size ≤ c
  hd : X.calm = true → X.A.handled = none
  frames : X.A.frames = some X.stack
  stk : X.stack = X.outer ∨ (X.stack = X.env :: X.outer ∧ X.env.frame = some X.env.locals)
  exf : ∀ b ∈ X.ex, b ≠ X.env.locals ∧ ∀ x c, X.env.cells.lookup x = some c → c ≠ b
  bs : ∀ b o, X.base.get? b = some o → X.s₀.heap.get? b = some o ∧ X.H₀ b = none
  bsz : X.base.objs.size ≤ X.s₀.heap.objs.size
  noex : ∀ b o, X.base.get? b = some o → b ∉ X.ex
  exfs : ∀ b ∈ X.ex, b ∉ X.fs
  funs : X.s₀.heap.FunFrames X.base X.outer
  frf : ∀ b ∈ X.fs, X.H₀ b = none
structure Inv (X : Cx) (pins : List (Addr × Obj)) (σ : List (Option V)) (H : Hp) (s : Shared) : Prop where
  ok : X.Ok
  os : s.os = X.s₀.os
  bare : AllBare s.gens
  base : Un X.fs X.ex X.H₀ H X.s₀.heap s.heap
  loc : ∃ m, s.heap.Ns X.env.locals m ∧ ∀ (i : Nat) (x : Str) (v : V), X.N[i]? = some x → σ[i]? = some (some v) → Vis X.env.scope x → ∃ u, RelV v u ∧ Look X.env s.heap m x u
  cell : ∀ x c, X.env.cells.lookup x = some c → ∃ v, s.heap.IsCell c v
  free : H X.env.locals = none
  freeC : ∀ x c, X.env.cells.lookup x = some c → H c = none
  pin : ∀ p ∈ X.pn ++ pins, s.heap.get? p.1 = some p.2 ∧ H p.1 = none ∧ p.1 ≠ X.env.locals ∧ p.1 ∉ X.fs ∧ ∀ v, p.2.data ≠ .cell v
  hok : HOk X.prog X.w H s.heap
  len : σ.length = X.N.length
section
variable {X : Cx} {pins : List (Addr × Obj)} {σ : List (Option V)} {H H' : Hp} {s : Shared} {h' : Heap}
theorem Cx.Ok.nofr (ok : X.Ok) {b : Addr} {o : Obj} (e : X.base.get? b = some o) : b ∉ X.fs := fun hb => by
  have := (ok.funs.mem hb).1
  rw [e] at this; cases this
theorem Inv.bs (I : Inv X pins σ H s) : ∀ b o, X.base.get? b = some o → s.heap.get? b = some o ∧ H b = none := fun b o e =>
  ⟨I.base.keep b o (I.ok.bs b o e).1 (I.ok.bs b o e).2 (I.ok.nofr e) (I.ok.noex b o e), I.base.free b o (I.ok.bs b o e).1 (I.ok.bs b o e).2 (I.ok.noex b o e)⟩
theorem Inv.bk (I : Inv X pins σ H s) : ∀ b o, X.base.get? b = some o → s.heap.get? b = some o := fun b o e => (I.bs b o e).1
theorem Inv.mod (I : Inv X pins σ H s) : Mod X.K X.mg X.base := I.ok.mod
theorem Inv.kIn (I : Inv X pins σ H s) : X.K.In s.heap := I.ok.mod.kin.keeps I.bk
theorem Inv.lt (I : Inv X pins σ H s) : X.env.locals < s.heap.objs.size := let ⟨_, hn, _⟩ := I.loc; hn.lt
theorem Inv.sz (I : Inv X pins σ H s) : X.s₀.heap.objs.size ≤ s.heap.objs.size := Nat.le_trans I.ok.above (Nat.le_of_lt I.lt)
theorem Inv.nofs (I : Inv X pins σ H s) {a : Addr} (h : s.heap.objs.size ≤ a) : a ∉ X.fs := fun hb => by
  obtain ⟨_, o, ho, _⟩ := I.ok.funs.mem hb
  exact absurd (Nat.lt_of_lt_of_le (Heap.lt_size ho) (Nat.le_trans I.sz h)) (Nat.lt_irrefl _)
theorem Inv.cne (I : Inv X pins σ H s) : ∀ x c, X.env.cells.lookup x = some c → c ≠ X.env.locals := fun x c e z => by
  obtain ⟨v, o, ho, hd⟩ := I.cell x c e
  obtain ⟨m, ⟨o', es, ep, ho', hd', _⟩, _⟩ := I.loc
  rw [z, ho'] at ho; cases ho; rw [hd'] at hd; cases hd
theorem Inv.funs (I : Inv X pins σ H s) : s.heap.FunFrames X.base X.outer := by
  have all : ∀ (l : List Env), (∀ b ∈ frs l, b ∈ X.fs) → X.s₀.heap.FunFrames X.base l → s.heap.FunFrames X.base l := by
    intro l
    induction l with
    | nil => intro _ _; trivial
    | cons env r ih =>
      intro hs hl
      obtain ⟨hk, ⟨L, o, hf, hn, ho, hd⟩, hr⟩ := hl
      have hL : L ∈ X.fs := hs L (by unfold frs; rw [List.filterMap_cons, hf]; exact List.mem_cons_self)
      obtain ⟨sl, e⟩ := I.base.slot L o ho (I.ok.frf L hL) hL fun z => I.ok.exfs L z hL
      exact ⟨hk, ⟨L, _, hf, hn, e, hd⟩, ih (fun b hb => hs b (by unfold frs; rw [List.filterMap_cons, hf]; exact List.mem_cons_of_mem _ hb)) hr⟩
  exact all X.outer (fun _ hb => hb) I.ok.funs
/-- the frames that run, for a call -/
theorem Inv.stack (I : Inv X pins σ H s) : s.heap.FunFrames X.base X.stack := by
  rcases I.ok.stk with e | ⟨e, hf⟩
  · rw [e]; exact I.funs
  · rw [e]
    obtain ⟨m, hn, _⟩ := I.loc
    refine .cons (by rw [I.ok.kind]; decide) hf hn ?_ I.funs
    exact Heap.get?_none_of_le (Nat.le_trans I.ok.bsz I.ok.above)
theorem Inv.stkSub (I : Inv X pins σ H s) : ∀ b ∈ frs X.stack, b ∈ X.env.locals :: X.fs := fun b hb => by
  rcases I.ok.stk with e | ⟨e, hf⟩
  · rw [e] at hb; exact List.mem_cons_of_mem _ hb
  · rw [e] at hb
    unfold frs at hb
    rw [List.filterMap_cons, hf] at hb
    exact hb
theorem Inv.stkFree (I : Inv X pins σ H s) : ∀ b ∈ frs X.stack, H b = none := fun b hb => by
  rcases List.mem_cons.mp (I.stkSub b hb) with e | hb
  · rw [e]; exact I.free
  · obtain ⟨_, o, ho, _⟩ := I.ok.funs.mem hb
    exact I.base.free b o ho (I.ok.frf b hb) fun z => I.ok.exfs b z hb
/-- THE STEP: the untracked objects but the frame and the records at ch are kept (the callers' frames up to slots), the frame's map is kept, the new abstract heap is held -/
theorem Inv.step {g' : Array GenState} {t' : Nat} {d' : Drawn} {ch : List Addr} (I : Inv X pins σ H s)
    (hch : ∀ b ∈ ch, (b ∈ X.ex ∨ X.s₀.heap.objs.size ≤ b) ∧ b ≠ X.env.locals ∧ (∀ x c, X.env.cells.lookup x = some c → c ≠ b) ∧ ∀ p ∈ X.pn ++ pins, p.1 ≠ b)
    (keep : ∀ b o, b ≠ X.env.locals → b ∉ X.fs → b ∉ ch → s.heap.get? b = some o → H b = none → h'.get? b = some o)
    (slot : ∀ b o, b ≠ X.env.locals → b ∈ X.fs → b ∉ ch → s.heap.get? b = some o → H b = none → ∃ sl, h'.get? b = some { o with slots := sl }) (free : ∀ b o, b ∉ ch → s.heap.get? b = some o → H b = none → H' b = none)
    (there : ∀ b o, b ∉ ch → s.heap.get? b = some o → ∃ o', h'.get? b = some o')
    (tups : ∀ b xs, H b = some (.tup xs) → H' b = some (.tup xs)) (frzs : ∀ b o u, H b = some (.frz o u) → H' b = some (.frz o u)) (tbls : ∀ b ps, H b = some (.tbl ps) → ∃ more, H' b = some (.tbl (ps ++ more)))
    (ns : ∀ m, s.heap.Ns X.env.locals m → h'.Ns X.env.locals m) (hok : HOk X.prog X.w H' h') (hg : AllBare g') :
    Inv X pins σ H' { s with heap := h', gens := g', drawn := d', toks := t' } := by
  have neL : ∀ b o, X.s₀.heap.get? b = some o → b ≠ X.env.locals := fun b o e => Nat.ne_of_lt (Nat.lt_of_lt_of_le (Heap.lt_size e) I.ok.above)
  have neC : ∀ b o, X.s₀.heap.get? b = some o → b ∉ X.ex → b ∉ ch := fun b o e hx hb => by
    rcases (hch b hb).1 with z | z
    · exact hx z
    · exact absurd (Nat.lt_of_lt_of_le (Heap.lt_size e) z) (Nat.lt_irrefl _)
  have cellK : ∀ x c, X.env.cells.lookup x = some c → ∀ v, s.heap.IsCell c v → h'.IsCell c v := fun x c e v ⟨o, ho, hd⟩ => by
    have nch : c ∉ ch := fun z => (hch c z).2.2.1 x c e rfl
    by_cases hc : c ∈ X.fs
    · obtain ⟨sl, q⟩ := slot c o (I.cne x c e) hc nch ho (I.freeC x c e)
      exact ⟨_, q, hd⟩
    · exact ⟨o, keep c o (I.cne x c e) hc nch ho (I.freeC x c e), hd⟩
  refine ⟨I.ok, I.os, hg, ⟨fun b o e n hb hx => ?_, fun b o e n hb hx => ?_, fun b o e n hx => ?_, fun b o e hx => ?_, fun b xs e => tups b xs (I.base.tups b xs e), fun b o xs e => frzs b o xs (I.base.frzs b o xs e), fun b ps e => ?_⟩, ?_, fun x c e => ?_, ?_, fun x c e => ?_, fun p hp => ?_, hok, I.len⟩
  · exact keep b o (neL b o e) hb (neC b o e hx) (I.base.keep b o e n hb hx) (I.base.free b o e n hx)
  · obtain ⟨sl, e1⟩ := I.base.slot b o e n hb hx
    obtain ⟨sl', e2⟩ := slot b _ (neL b o e) hb (neC b o e hx) e1 (I.base.free b o e n hx)
    exact ⟨sl', e2⟩
  · obtain ⟨o', e1⟩ := I.base.there b o e hx
    exact free b o' (neC b o e hx) e1 (I.base.free b o e n hx)
  · obtain ⟨o', e1⟩ := I.base.there b o e hx
    exact there b o' (neC b o e hx) e1
  · obtain ⟨m1, e1⟩ := I.base.tbls b ps e
    obtain ⟨m2, e2⟩ := tbls b _ e1
    exact ⟨m1 ++ m2, by rw [e2, Array.append_assoc]⟩
  · obtain ⟨m, hn, hl⟩ := I.loc
    refine ⟨m, ns m hn, fun i x v e1 e2 e3 => ?_⟩
    obtain ⟨u, r, l⟩ := hl i x v e1 e2 e3
    refine ⟨u, r, ?_⟩
    rcases l with l | ⟨k, c, e, z⟩
    · exact .inl l
    · exact .inr ⟨k, c, e, cellK x c e _ z⟩
  · obtain ⟨v, z⟩ := I.cell x c e
    exact ⟨v, cellK x c e v z⟩
  · obtain ⟨m, ⟨o, _, _, ho, _⟩, _⟩ := I.loc
    exact free _ o (fun z => (hch _ z).2.1 rfl) ho I.free
  · obtain ⟨v, o, ho, hd⟩ := I.cell x c e
    exact free c o (fun z => (hch c z).2.2.1 x c e rfl) ho (I.freeC x c e)
  · obtain ⟨e, n, ne, nf, d⟩ := I.pin p hp
    have nch : p.1 ∉ ch := fun z => (hch p.1 z).2.2.2 p hp rfl
    exact ⟨keep p.1 p.2 ne nf nch e n, free p.1 p.2 nch e n, ne, nf, d⟩
/-- .. where the frame's own object is kept too -/
theorem Inv.un {t' : Nat} (I : Inv X pins σ H s) (u : Un X.fs [] H H' s.heap h') (hok : HOk X.prog X.w H' h') : Inv X pins σ H' { s with heap := h', toks := t' } := by
  obtain ⟨m, ⟨o, es, ep, ho, r⟩, _⟩ := id I.loc
  obtain ⟨sl, hL⟩ := u.any ho I.free (by simp)
  exact I.step (g' := s.gens) (d' := s.drawn) (ch := []) (fun _ z => nomatch z) (fun b o _ hb _ e n => u.keep b o e n hb (by simp)) (fun b o _ hb _ e n => u.slot b o e n hb (by simp)) (fun b o _ e n => u.free b o e n (by simp)) (fun b o _ e => u.there b o e (by simp)) u.tups u.frzs u.tbls (fun m' hm => by
    obtain ⟨o', es', ep', ho', r'⟩ := hm
    rw [ho] at ho'; cases ho'
    exact ⟨_, es', ep', hL, r'⟩) hok I.bare
/-- behind a call (or a comprehension's block): the slots of this frame may have changed too, the records at ch may have turned -/
theorem Inv.call {g' : Array GenState} {t' : Nat} {d' : Drawn} {ch : List Addr} (I : Inv X pins σ H s) (u : Un (frs X.stack) ch H H' s.heap h') (hok : HOk X.prog X.w H' h') (hg : AllBare g')
    (hch : ∀ b ∈ ch, (b ∈ X.ex ∨ X.s₀.heap.objs.size ≤ b) ∧ b ≠ X.env.locals ∧ (∀ x c, X.env.cells.lookup x = some c → c ≠ b) ∧ ∀ p ∈ X.pn ++ pins, p.1 ≠ b) :
    Inv X pins σ H' { s with heap := h', gens := g', drawn := d', toks := t' } := by
  obtain ⟨m, ⟨o, es, ep, ho, r⟩, _⟩ := id I.loc
  obtain ⟨sl, hL⟩ := u.any ho I.free fun z => (hch _ z).2.1 rfl
  exact I.step (ch := ch) hch (fun b o hL hb hc e n => u.keep b o e n (fun z => (List.mem_cons.mp (I.stkSub b z)).elim hL hb) hc) (fun b o _ _ hc e n => u.any e n hc) (fun b o hc e n => u.free b o e n hc) (fun b o hc e => u.there b o e hc) u.tups u.frzs u.tbls (fun m' hm => by
    obtain ⟨o', es', ep', ho', r'⟩ := hm
    rw [ho] at ho'; cases ho'
    exact ⟨_, es', ep', hL, r'⟩) hok hg
/-- an untracked record of ours (an iterator) has turned -/
theorem Inv.turned {t' : Nat} {it : Addr} (I : Inv X pins σ H s) (k : ∀ b o, b ≠ it → s.heap.get? b = some o → h'.get? b = some o) (hn : H it = none) (hL : it ≠ X.env.locals)
    (h1 : it ∈ X.ex ∨ X.s₀.heap.objs.size ≤ it) (h2 : ∀ x c, X.env.cells.lookup x = some c → c ≠ it) (h3 : ∀ p ∈ X.pn ++ pins, p.1 ≠ it) : Inv X pins σ H { s with heap := h', toks := t' } := by
  have nit : ∀ b u, H b = some u → b ≠ it := fun b u e z => by rw [z, hn] at e; cases e
  refine I.step (g' := s.gens) (d' := s.drawn) (ch := [it]) (fun b hb => ?_) (fun b o _ _ hc e _ => k b o (fun z => hc (by simp [z])) e) (fun b o _ _ hc e _ => ⟨o.slots, k b o (fun z => hc (by simp [z])) e⟩) (fun _ _ _ _ n => n)
    (fun b o hc e => ⟨o, k b o (fun z => hc (by simp [z])) e⟩) (fun _ _ e => e) (fun _ _ _ e => e) (fun b ps e => ⟨#[], by rw [e]; simp⟩) (fun m hm => ?_) (fun b u e => ?_) I.bare
  · have e : b = it := by simpa using hb
    subst e
    exact ⟨h1, hL, h2, h3⟩
  · obtain ⟨o, es, ep, ho, r⟩ := hm
    exact ⟨o, es, ep, k _ o (Ne.symm hL) ho, r⟩
  · refine (I.hok b u e).stay (fun c v hc q => k c v ?_ q) (fun _ q => q) fun _ _ q => q
    rcases hc with z | z
    · rw [z]; exact nit b u e
    · exact nit c _ z
theorem Inv.tok (I : Inv X pins σ H s) (t : Nat) : Inv X pins σ H { s with toks := t } := I.un (h' := s.heap) (t' := t) Un.refl I.hok
/-- all objects kept -/
theorem Inv.kept {t' : Nat} (I : Inv X pins σ H s) (k : ∀ b u, s.heap.get? b = some u → h'.get? b = some u) : Inv X pins σ H { s with heap := h', toks := t' } := I.un (Un.kept k) (I.hok.kept k)
/-- a new object laid and tracked -/
theorem Inv.laid {a : Addr} {o : HO} {t' : Nat} (I : Inv X pins σ H s) (k : ∀ b u, s.heap.get? b = some u → h'.get? b = some u) (hp : s.heap.objs.size ≤ a) (new : ObjOk X.prog X.w (upd H a o) h' a o) :
    Inv X pins σ (upd H a o) { s with heap := h', toks := t' } := I.un (Un.laid k hp (I.hok.fresh hp)) (I.hok.laid k hp new)
/-- an object written -/
theorem Inv.write {x e : Addr} {o : HO} {t' : Nat} (I : Inv X pins σ H s) (mu : Mut (H x)) (he : e = x ∨ H e = some (.own x)) (k : ∀ b u, b ≠ e → s.heap.get? b = some u → h'.get? b = some u) (heo : ∃ u, h'.get? e = some u)
    (new : ObjOk X.prog X.w (upd H x o) h' x o) : Inv X pins σ (upd H x o) { s with heap := h', toks := t' } := I.un (Un.write mu he k heo) (I.hok.write mu he k heo new)
theorem Inv.pins_of {pins' : List (Addr × Obj)} (I : Inv X pins σ H s) (h : ∀ p ∈ pins', s.heap.get? p.1 = some p.2 ∧ H p.1 = none ∧ p.1 ≠ X.env.locals ∧ p.1 ∉ X.fs ∧ ∀ v, p.2.data ≠ .cell v) : Inv X pins' σ H s :=
  ⟨I.ok, I.os, I.bare, I.base, I.loc, I.cell, I.free, I.freeC, fun p hp => (List.mem_append.mp hp).elim (fun z => I.pin p (List.mem_append_left _ z)) (h p), I.hok, I.len⟩
theorem nodup_ix {N : List Str} (hN : N.Nodup) {i j : Nat} {x : Str} (a : N[i]? = some x) (b : N[j]? = some x) : i = j := by
  obtain ⟨h1, e1⟩ := List.getElem?_eq_some_iff.mp a
  obtain ⟨h2, e2⟩ := List.getElem?_eq_some_iff.mp b
  exact (List.getElem_inj hN).mp (e1.trans e2.symm)
/-- a name is stored; what changed -/
theorem store_ok2 {M : Model} {A : Around} {E : Value → Shared → Prop} {i : Nat} {x : Str} {v : V} {u : Value} {Q : Unit → Shared → Prop} (I : Inv X pins σ H s) (hN : X.N.Nodup) (hi : X.N[i]? = some x) (hx : Loc X.env.scope x) (r : RelV v u)
    (h : ∀ s', Inv X pins (σ.set i (some v)) H s' → (∃ a, Heap.SameBut a s.heap s'.heap ∧ (a = X.env.locals ∨ X.env.cells.lookup x = some a)) → Q () s') (hf : X.fn x = true ∨ X.env.scope.names.lookup x = some .local := by first | exact .inl rfl | exact .inr rfl | assumption) : wpAny M A (storeName X.env x u) Q E s := by
  obtain ⟨m, hn, hl⟩ := id I.loc
  have hcls : (X.env.scope.kind == .class || (X.env.scope.kind == .module && X.env.locals != X.env.globals)) = false := by rw [I.ok.kind]; rfl
  have hiσ : i < σ.length := by rw [I.len]; exact (List.getElem?_eq_some_iff.mp hi).1
  have cne := I.cne
  have tracked : ∀ {a : Addr} {h' : Heap}, (∃ o, s.heap.get? a = some o ∧ H a = none) → Heap.SameBut a s.heap h' → HOk X.prog X.w H h' := fun {a h'} ha hs b ob e => by
    obtain ⟨_, _, hfree⟩ := ha
    refine (I.hok b ob e).stay (fun c w' hc q => (hs.2 c ?_).trans q) (fun _ q => q) fun _ _ q => q
    rintro rfl
    rcases hc with rfl | hc
    · rw [hfree] at e; cases e
    · rw [hfree] at hc; cases hc
  rcases hx with hk | hk
  · refine wpAny_storeName_local hk hn (fun h' hn' hs => ?_) hcls
    obtain ⟨oL, _, _, hoL, _⟩ := id hn
    refine h _ ⟨I.ok, I.os, I.bare, ⟨fun b o e n hb hx => ?_, fun b o e n hb hx => ?_, I.base.free, fun b o e hx => ?_, I.base.tups, I.base.frzs, I.base.tbls⟩, ⟨_, hn', fun j y v' e1 e2 e3 => ?_⟩, fun y c e => ?_, I.free, I.freeC, fun p hp => ?_, tracked ⟨oL, hoL, I.free⟩ hs, by simpa using I.len⟩ ⟨_, hs, .inl rfl⟩
    · exact (hs.2 b (Nat.ne_of_lt (Nat.lt_of_lt_of_le (Heap.lt_size e) I.ok.above))).trans (I.base.keep b o e n hb hx)
    · obtain ⟨sl, e1⟩ := I.base.slot b o e n hb hx
      exact ⟨sl, (hs.2 b (Nat.ne_of_lt (Nat.lt_of_lt_of_le (Heap.lt_size e) I.ok.above))).trans e1⟩
    · obtain ⟨o', e1⟩ := I.base.there b o e hx
      exact ⟨o', (hs.2 b (Nat.ne_of_lt (Nat.lt_of_lt_of_le (Heap.lt_size e) I.ok.above))).trans e1⟩
    · by_cases hj : j = i
      · subst hj
        rw [hi] at e1; cases e1
        rw [List.getElem?_set_self hiσ] at e2
        cases e2
        exact ⟨u, r, .inl ⟨hk, by simp⟩⟩
      · rw [List.getElem?_set_ne (Ne.symm hj)] at e2
        obtain ⟨u', r', q⟩ := hl j y v' e1 e2 e3
        refine ⟨u', r', ?_⟩
        rcases q with ⟨k, e⟩ | ⟨k, c, e, z⟩
        · refine .inl ⟨k, ?_⟩
          have : y ≠ x := fun e => hj (nodup_ix hN e1 (e ▸ hi))
          simp [this, e]
        · exact .inr ⟨k, c, e, z.sameBut hs (cne y c e)⟩
    · obtain ⟨w', z⟩ := I.cell y c e
      exact ⟨w', z.sameBut hs (cne y c e)⟩
    · obtain ⟨e, n, ne, nf, d⟩ := I.pin p hp
      exact ⟨(hs.2 p.1 ne).trans e, n, ne, nf, d⟩
  · have hfn : X.fn x = true := by
      rcases hf with z | z
      · exact z
      · rw [z] at hk; cases hk
    obtain ⟨c, hc⟩ := I.ok.has x (.inl hk)
    obtain ⟨w', z⟩ := I.cell x c hc
    refine wpAny_storeName_cell I.ok.kind hk hc z (fun h' hc' hs => ?_)
    obtain ⟨oc, hoc, hocd⟩ := id z
    refine h { s with heap := h' } ⟨I.ok, I.os, I.bare, ⟨fun b o e n hb hx => ?_, fun b o e n hb hx => ?_, I.base.free, fun b o e hx => ?_, I.base.tups, I.base.frzs, I.base.tbls⟩, ⟨m, hn.sameBut hs (Ne.symm (cne x c hc)), fun j y v' e1 e2 e3 => ?_⟩, fun y c' e => ?_, I.free, I.freeC, fun p hp => ?_, tracked ⟨oc, hoc, I.freeC x c hc⟩ hs, by simpa using I.len⟩ ⟨c, hs, .inr hc⟩
    · exact (hs.2 b (Nat.ne_of_lt (Nat.lt_of_lt_of_le (Heap.lt_size e) (I.ok.cab x c hfn hc)))).trans (I.base.keep b o e n hb hx)
    · obtain ⟨sl, e1⟩ := I.base.slot b o e n hb hx
      exact ⟨sl, (hs.2 b (Nat.ne_of_lt (Nat.lt_of_lt_of_le (Heap.lt_size e) (I.ok.cab x c hfn hc)))).trans e1⟩
    · obtain ⟨o', e1⟩ := I.base.there b o e hx
      exact ⟨o', (hs.2 b (Nat.ne_of_lt (Nat.lt_of_lt_of_le (Heap.lt_size e) (I.ok.cab x c hfn hc)))).trans e1⟩
    · by_cases hj : j = i
      · subst hj
        rw [hi] at e1; cases e1
        rw [List.getElem?_set_self hiσ] at e2
        cases e2
        exact ⟨u, r, .inr ⟨.inl hk, c, hc, hc'⟩⟩
      · rw [List.getElem?_set_ne (Ne.symm hj)] at e2
        obtain ⟨u', r', q⟩ := hl j y v' e1 e2 e3
        refine ⟨u', r', ?_⟩
        rcases q with q | ⟨k, c', e, z'⟩
        · exact .inl q
        · refine .inr ⟨k, c', e, z'.sameBut hs ?_⟩
          rintro rfl
          exact hj (nodup_ix hN e1 (I.ok.inj _ _ _ e hc ▸ hi))
    · by_cases hcc : c' = c
      · subst hcc; exact ⟨_, hc'⟩
      · obtain ⟨w2, z2⟩ := I.cell y c' e
        exact ⟨w2, z2.sameBut hs hcc⟩
    · obtain ⟨e, n, ne, nf, d⟩ := I.pin p hp
      refine ⟨(hs.2 p.1 ?_).trans e, n, ne, nf, d⟩
      intro q
      rw [q, hoc] at e
      have q' : oc = p.2 := Option.some.inj e
      exact d w' (by rw [← q']; exact hocd)
theorem store_ok {M : Model} {A : Around} {E : Value → Shared → Prop} {i : Nat} {x : Str} {v : V} {u : Value} {Q : Unit → Shared → Prop} (I : Inv X pins σ H s) (hN : X.N.Nodup) (hi : X.N[i]? = some x) (hx : Loc X.env.scope x) (r : RelV v u)
    (h : ∀ s', Inv X pins (σ.set i (some v)) H s' → Q () s') (hf : X.fn x = true ∨ X.env.scope.names.lookup x = some .local := by first | exact .inl rfl | exact .inr rfl | assumption) : wpAny M A (storeName X.env x u) Q E s :=
  store_ok2 I hN hi hx r (fun s' I' _ => h s' I') hf
/-- behind a call or a block, the state as it is -/
theorem Inv.call' {s' : Shared} {ch : List Addr} (I : Inv X pins σ H s) (ho : s'.os = s.os) (u : Un (frs X.stack) ch H H' s.heap s'.heap) (hok : HOk X.prog X.w H' s'.heap) (hg : AllBare s'.gens)
    (hch : ∀ b ∈ ch, (b ∈ X.ex ∨ X.s₀.heap.objs.size ≤ b) ∧ b ≠ X.env.locals ∧ (∀ x c, X.env.cells.lookup x = some c → c ≠ b) ∧ ∀ p ∈ X.pn ++ pins, p.1 ≠ b) : Inv X pins σ H' s' := by
  obtain ⟨h', g', d', t', o'⟩ := s'
  have e : o' = s.os := ho
  subst e
  exact I.call (g' := g') (t' := t') (d' := d') u hok hg hch
end
/-! ### the judgements -/
/-- an exception: its class, its own dict's address (where it has one), the abstract heap behind it -/
abbrev XK := Value → Option Addr → Hp → Prop
abbrev St := List (Option V)
abbrev VK := V → Hp → Prop
/-- an expression's reading; a test's; an argument list's -/
abbrev TE := St → Hp → VK → Prop
abbrev TT := St → Hp → (Bool → Hp → Prop) → Prop
abbrev TA := St → Hp → (List V → Hp → Prop) → Prop
/-- what is wanted behind a statement -/
structure Ends where
  nx : St → Hp → Prop
  rt : VK
  bk : St → Hp → Prop := fun _ _ => False
  ct : St → Hp → Prop := fun _ _ => False
abbrev TS := Ends → St → Hp → Prop
def EP (X : Cx) (pins : List (Addr × Obj)) (σ : St) (Q : VK) (u : Value) (s' : Shared) : Prop := ∃ v H', Inv X pins σ H' s' ∧ RelV v u ∧ Q v H'
def TP (X : Cx) (pins : List (Addr × Obj)) (σ : St) (Q : Bool → Hp → Prop) (b : Bool) (s' : Shared) : Prop := ∃ H', Inv X pins σ H' s' ∧ Q b H'
def AP (X : Cx) (pins : List (Addr × Obj)) (σ : St) (Q : List V → Hp → Prop) (us : List Value) (s' : Shared) : Prop := ∃ vs H', Inv X pins σ H' s' ∧ Vals vs us ∧ Q vs H'
def SP (X : Cx) (pins : List (Addr × Obj)) (D : Ends) (f : Flow) (s' : Shared) : Prop :=
  match f with
  | .next => ∃ σ' H', Inv X pins σ' H' s' ∧ D.nx σ' H'
  | .brk => ∃ σ' H', Inv X pins σ' H' s' ∧ D.bk σ' H'
  | .cont => ∃ σ' H', Inv X pins σ' H' s' ∧ D.ct σ' H'
  | .ret u => ∃ v σ' H', Inv X pins σ' H' s' ∧ RelV v u ∧ D.rt v H'
def PE (X : Cx) (e : Expr) (t : TE) : Prop :=
  ∀ (pins : List (Addr × Obj)) (s : Shared) (σ : St) (H : Hp) (Q : VK), Inv X pins σ H s → t σ H Q → wpAny (model X.prog X.w) X.A (eval e X.env) (EP X pins σ Q) X.xe s
def PT (X : Cx) (e : Expr) (t : TT) : Prop :=
  ∀ (pins : List (Addr × Obj)) (s : Shared) (σ : St) (H : Hp) (Q : Bool → Hp → Prop), Inv X pins σ H s → t σ H Q → wpAny (model X.prog X.w) X.A (isTrue e X.env (eval e X.env)) (TP X pins σ Q) X.xe s
/-- a test whatever its 'whole' is (and, or) -/
def PW (X : Cx) (e : Expr) (t : TT) : Prop :=
  ∀ (whole : Sem Value) (pins : List (Addr × Obj)) (s : Shared) (σ : St) (H : Hp) (Q : Bool → Hp → Prop), Inv X pins σ H s → t σ H Q → wpAny (model X.prog X.w) X.A (isTrue e X.env whole) (TP X pins σ Q) X.xe s
theorem PW.pt {X : Cx} {e : Expr} {t : TT} (h : PW X e t) : PT X e t := h _
/-- an argument list (no star), from the left -/
def PA (X : Cx) (es : List Expr) (t : TA) : Prop :=
  ∀ (pos : Pos) (pins : List (Addr × Obj)) (s : Shared) (σ : St) (H : Hp) (Q : List V → Hp → Prop), Inv X pins σ H s → t σ H Q → wpAny (model X.prog X.w) X.A (spliced (backTo pos (starEach es X.env))) (AP X pins σ Q) X.xe s
def PS (X : Cx) (st : Stmt) (t : TS) : Prop :=
  ∀ (pins : List (Addr × Obj)) (s : Shared) (σ : St) (H : Hp) (D : Ends), Inv X pins σ H s → t D σ H → wpAny (model X.prog X.w) X.A (exec st X.env) (SP X pins D) X.xe s
def PSs (X : Cx) (st : List Stmt) (t : TS) : Prop :=
  ∀ (pins : List (Addr × Obj)) (s : Shared) (σ : St) (H : Hp) (D : Ends), Inv X pins σ H s → t D σ H → wpAny (model X.prog X.w) X.A (execs st X.env) (SP X pins D) X.xe s
/-- weaken the end -/
theorem thn {α : Type} {t : Sem α} {Q Q' : α → Shared → Prop} {M : Model} {A : Around} {E : Value → Shared → Prop} {s : Shared} (h : wpAny M A t Q E s) (hQ : ∀ a s, Q a s → Q' a s) : wpAny M A t Q' E s := wpAny_mono h hQ fun _ _ x => x
theorem thnE {X : Cx} {pins : List (Addr × Obj)} {σ : St} {Q : VK} {t : Sem Value} {Q' : Value → Shared → Prop} {M : Model} {A : Around} {E : Value → Shared → Prop} {s : Shared} (h : wpAny M A t (EP X pins σ Q) E s) (hQ : ∀ u s' v H', Inv X pins σ H' s' → RelV v u → Q v H' → Q' u s') : wpAny M A t Q' E s :=
  wpAny_mono h (fun u s' ⟨v, H', a, b, c⟩ => hQ u s' v H' a b c) fun _ _ x => x
end L2
namespace L2
open PySem PySem.Spec PyProof.Rows
section
variable {X : Cx}
/-! ### names and constants -/
def tVar (i : Nat) : TE := fun σ H Q => ∃ v, σ[i]? = some (some v) ∧ Q v H
def tC (v : V) : TE := fun _ H Q => Q v H
theorem pe_var {i : Nat} {x : Str} {pos : Pos} (hN : X.N[i]? = some x) (hv : Vis X.env.scope x) (hd : (x == ("__debug__" : Str)) = false := by decide) (hcd : (x == ("__classdict__" : Str)) = false := by decide) : PE X (.Name x pos) (tVar i) := by
  intro pins s σ H Q I h
  obtain ⟨v, e, h⟩ := h
  obtain ⟨m, hn, hl⟩ := I.loc
  obtain ⟨u, r, l⟩ := hl i x v hN e hv
  have fin : EP X pins σ Q u s := ⟨v, H, I, r, h⟩
  rcases l with ⟨hk, hm⟩ | ⟨hk, c, hc, hcell⟩
  · exact wpAny_Name (wpAny_loadName_local I.ok.kind hk hn hm fin) hd
  · rcases hk with hk | hk
    · exact wpAny_Name (wpAny_loadName_cell I.ok.kind hk hc hcell fin) hd
    · exact wpAny_Name (wpAny_loadName_free I.ok.kind hk hc hcell fin hcd) hd
theorem pe_int {i j pos} : PE X (.Constant (.int i) j pos) (tC (.int i)) := fun _ _ _ H _ I h => wpAny_Constant_int ⟨.int i, H, I.tok _, ⟨_, rfl⟩, h⟩
theorem pe_bl {b j pos} : PE X (.Constant (.bool b) j pos) (tC (.bl b)) := fun _ _ _ H _ I h => Constant_bool ⟨.bl b, H, I, rfl, h⟩
theorem pe_non {j pos} : PE X (.Constant .none j pos) (tC .non) := fun _ _ _ H _ I h => Constant_none ⟨.non, H, I, rfl, h⟩
theorem pe_str {x j pos} : PE X (.Constant (.str x) j pos) (tC (.str x)) := fun _ _ _ H _ I h => Calls.Constant_str ⟨.str x, H, I.tok _, ⟨_, rfl⟩, h⟩
/-- a global name of the def -/
def Gl (X : Cx) (x : Str) : Prop := X.env.kindOf x = some .globalImplicit
theorem ld_glob {E : Value → Shared → Prop} {pins : List (Addr × Obj)} {s : Shared} {σ : St} {H : Hp} {x : Str} {u : Value} {pos : Pos} {Q : Value → Shared → Prop} (I : Inv X pins σ H s) (hg : Gl X x) (hm : X.mg x = some u) (h : Q u s)
    (hd : (x == ("__debug__" : Str)) = false := by decide) : wpAny (model X.prog X.w) X.A (eval (.Name x pos) X.env) Q E s :=
  Calls.Name_function_global I.ok.kind hg (Calls.loadGlobal_global (by rw [I.ok.glob]; exact I.mod.glob.keeps I.bk) hm h) hd
theorem ld_blt {E : Value → Shared → Prop} {pins : List (Addr × Obj)} {s : Shared} {σ : St} {H : Hp} {x : Str} {u : Value} {pos : Pos} {Q : Value → Shared → Prop} (I : Inv X pins σ H s) (hg : Gl X x) (hm : X.mg x = none) (hv : bootBuiltins x = some u) (h : Q u s)
    (hn : x ≠ "__name__" := by decide) (hd : (x == ("__debug__" : Str)) = false := by decide) : wpAny (model X.prog X.w) X.A (eval (.Name x pos) X.env) Q E s := by
  obtain ⟨mb, h1, h2⟩ := I.mod.blt
  exact Calls.Name_function_global I.ok.kind hg (Calls.loadGlobal_builtin (by rw [I.ok.glob]; exact I.mod.glob.keeps I.bk) hm (by rw [I.ok.blt]; exact h1.keeps I.bk) ((h2 x hn).trans hv) h) hd
/-- a module's constant, a class, a function, as a value -/
theorem pe_glob {x : Str} {v : V} {u : Value} {pos : Pos} (hg : Gl X x) (hm : X.mg x = some u) (r : RelV v u) (hd : (x == ("__debug__" : Str)) = false := by decide) : PE X (.Name x pos) (tC v) :=
  fun _ _ _ H _ I h => ld_glob I hg hm ⟨v, H, I, r, h⟩ hd
theorem pe_bltn {x : Str} {v : V} {u : Value} {pos : Pos} (hg : Gl X x) (hm : X.mg x = none) (hv : bootBuiltins x = some u) (r : RelV v u) (hn : x ≠ "__name__" := by decide) (hd : (x == ("__debug__" : Str)) = false := by decide) : PE X (.Name x pos) (tC v) :=
  fun _ _ _ H _ I h => ld_blt I hg hm hv ⟨v, H, I, r, h⟩ hn hd
/-! ### arithmetic -/
variable {a b : Expr} {ta tb : TE} {pos : Pos}
/-! ### comparisons -/
def PC (X : Cx) (op : CmpOp) (a b : Expr) (t : TE) : Prop :=
  ∀ (pins : List (Addr × Obj)) (s : Shared) (σ : St) (H : Hp) (Q : VK), Inv X pins σ H s → t σ H Q →
    wpAny (model X.prog X.w) X.A (eval a X.env) (fun v s₁ => wpAny (model X.prog X.w) X.A (eval b X.env) (fun u s₂ => wpAny (model X.prog X.w) X.A (compareOp op v u) (EP X pins σ Q) X.xe s₂) X.xe s₁) X.xe s
theorem nobehind (b : Expr) {op : CmpOp} (h : op ≠ .In) (h2 : op ≠ .NotIn) : behindInMarks op b = false := by
  have e1 : (op == CmpOp.In) = false := by cases op <;> first | rfl | exact absurd rfl h
  have e2 : (op == CmpOp.NotIn) = false := by cases op <;> first | rfl | exact absurd rfl h2
  cases b <;> simp [behindInMarks, e1, e2]
/-- is None -/
def tIsN (ta : TE) : TE := fun σ H Q => ta σ H fun x H1 => Q (.bl (decide (x = .non))) H1
def tNotN (ta : TE) : TE := fun σ H Q => ta σ H fun x H1 => Q (.bl (!decide (x = .non))) H1
theorem RelV.none_iff {x : V} {v : Value} (r : RelV x v) : (v == Value.none) = decide (x = .non) := by
  cases x with
  | non => cases r; rfl
  | bl _ => cases r; rfl
  | int _ => obtain ⟨t, rfl⟩ := r; rfl
  | str _ => obtain ⟨t, rfl⟩ := r; rfl
  | byt _ => obtain ⟨t, rfl⟩ := r; rfl
  | flt _ => obtain ⟨t, rfl⟩ := r; rfl
  | ref _ => cases r; rfl
  | ty _ => cases r; rfl
theorem pc_isN {j pos'} (ha : PE X a ta) : PC X .Is a (.Constant .none j pos') (tIsN ta) := by
  intro pins s σ H Q I h
  refine thnE (ha pins s σ H _ I h) fun v s1 x H1 I1 r1 q1 => ?_
  exact Constant_none (is_none_gen ⟨.bl _, H1, I1, by rw [r1.none_iff]; rfl, q1⟩)
theorem pc_notN {j pos'} (ha : PE X a ta) : PC X .IsNot a (.Constant .none j pos') (tNotN ta) := by
  intro pins s σ H Q I h
  refine thnE (ha pins s σ H _ I h) fun v s1 x H1 I1 r1 q1 => ?_
  exact Constant_none (isnot_none_gen ⟨.bl _, H1, I1, by rw [r1.none_iff]; rfl, q1⟩)
/-- a comparison as a value, as a test -/
def tB (t : TE) : TT := fun σ H Q => t σ H fun x H1 => ∃ c, x = .bl c ∧ Q c H1
theorem pt_cmp {op : CmpOp} {t : TE} (h : PC X op a b t) (h1 : behindInMarks op b = false := by first | exact nobehind _ (by decide) (by decide) | rfl) : PT X (.Compare a [op] [b] pos) (tB t) := by
  intro pins s σ H Q I hw
  refine wpAny_isTrue_Compare1 (thn (h pins s σ H _ I hw) fun v s1 h1 => thn h1 fun u s2 h2 => thn h2 fun c s3 ⟨x, H1, I1, r1, q1⟩ => ?_) h1
  obtain ⟨d, rfl, q⟩ := q1
  cases r1
  exact wpAny_truthy_bool ⟨H1, I1, q⟩
/-- an expression whose value is a bool, as a test -/
theorem pt_val {e : Expr} {t : TE} (h : PE X e t) (he : ∀ whole, isTrue e X.env whole = (do let v ← whole; standAt e.pos; holding [v] (truthy v)) := by intro _; rfl) : PT X e (tB t) := by
  intro pins s σ H Q I hw
  refine isTrue_plain (thnE (h pins s σ H _ I hw) fun v s1 x H1 I1 r1 q1 => ?_) (he _)
  obtain ⟨d, rfl, q⟩ := q1
  cases r1
  exact wpAny_truthy_bool ⟨H1, I1, q⟩
/-! ### and, or, not -/
variable {tA tB' : TT} {rest : List Expr}
def tAnd (t u : TT) : TT := fun σ H Q => t σ H fun c H1 => if c = true then u σ H1 Q else Q false H1
def tOr (t u : TT) : TT := fun σ H Q => t σ H fun c H1 => if c = true then Q true H1 else u σ H1 Q
def tNot (t : TT) : TT := fun σ H Q => t σ H fun c H1 => Q (!c) H1
theorem pw_and1 (ha : PT X a tA) : PW X (.BoolOp .And [a] pos) tA := by
  intro wh pins s σ H Q I h
  refine isTrue_and (thn (ha pins s σ H Q I h) fun c s1 e => ?_)
  cases c with
  | true => exact isTrue_and_nil e
  | false => exact e
theorem pw_or1 (ha : PT X a tA) : PW X (.BoolOp .Or [a] pos) tA := by
  intro wh pins s σ H Q I h
  refine isTrue_or (thn (ha pins s σ H Q I h) fun c s1 e => ?_)
  cases c with
  | false => exact isTrue_or_nil e
  | true => exact e
theorem pw_and (ha : PT X a tA) (hb : PW X (.BoolOp .And (b :: rest) pos) tB') : PW X (.BoolOp .And (a :: b :: rest) pos) (tAnd tA tB') := by
  intro wh pins s σ H Q I h
  refine isTrue_and (thn (ha pins s σ H _ I h) fun c s1 ⟨H1, I1, q1⟩ => ?_)
  cases c with
  | true => exact hb wh pins s1 σ H1 Q I1 q1
  | false => exact ⟨H1, I1, q1⟩
theorem pw_or (ha : PT X a tA) (hb : PW X (.BoolOp .Or (b :: rest) pos) tB') : PW X (.BoolOp .Or (a :: b :: rest) pos) (tOr tA tB') := by
  intro wh pins s σ H Q I h
  refine isTrue_or (thn (ha pins s σ H _ I h) fun c s1 ⟨H1, I1, q1⟩ => ?_)
  cases c with
  | true => exact ⟨H1, I1, q1⟩
  | false => exact hb wh pins s1 σ H1 Q I1 q1
theorem pt_not (ha : PT X a tA) : PT X (.UnaryOp .Not a pos) (tNot tA) := by
  intro pins s σ H Q I h
  exact isTrue_not (ha pins s σ H (fun c H1 => Q (!c) H1) I h)
/-- .. as values (bools) -/
def tAndV (ta tb : TE) : TE := fun σ H Q => ta σ H fun x H1 => ∃ c, x = .bl c ∧ if c = true then tb σ H1 Q else Q (.bl false) H1
def tOrV (ta tb : TE) : TE := fun σ H Q => ta σ H fun x H1 => ∃ c, x = .bl c ∧ if c = true then Q (.bl true) H1 else tb σ H1 Q
def tNotV (ta : TE) : TE := fun σ H Q => ta σ H fun x H1 => ∃ c, x = .bl c ∧ Q (.bl (!c)) H1
theorem pe_one {op} {t : TE} (h : PE X a t) : PE X (.BoolOp op [a] pos) t := fun pins s σ H Q I hw => BoolOp_one (h pins s σ H Q I hw)
theorem pe_and (ha : PE X a ta) (hb : PE X (.BoolOp .And (b :: rest) pos) tb) : PE X (.BoolOp .And (a :: b :: rest) pos) (tAndV ta tb) := by
  intro pins s σ H Q I h
  refine BoolOp_and (thnE (ha pins s σ H _ I h) fun v s1 x H1 I1 r1 q1 => ?_)
  obtain ⟨c, rfl, q1⟩ := q1
  cases r1
  refine wpAny_truthy_bool ?_
  cases c with
  | true => exact hb pins s1 σ H1 Q I1 q1
  | false => exact ⟨.bl false, H1, I1, rfl, q1⟩
theorem pe_or (ha : PE X a ta) (hb : PE X (.BoolOp .Or (b :: rest) pos) tb) : PE X (.BoolOp .Or (a :: b :: rest) pos) (tOrV ta tb) := by
  intro pins s σ H Q I h
  refine BoolOp_or (thnE (ha pins s σ H _ I h) fun v s1 x H1 I1 r1 q1 => ?_)
  obtain ⟨c, rfl, q1⟩ := q1
  cases r1
  refine wpAny_truthy_bool ?_
  cases c with
  | false => exact hb pins s1 σ H1 Q I1 q1
  | true => exact ⟨.bl true, H1, I1, rfl, q1⟩
theorem pe_not (ha : PE X a ta) : PE X (.UnaryOp .Not a pos) (tNotV ta) := by
  intro pins s σ H Q I h
  refine UnaryOp_ (thnE (ha pins s σ H _ I h) fun v s1 x H1 I1 r1 q1 => ?_)
  obtain ⟨c, rfl, q1⟩ := q1
  cases r1
  exact not_of (wpAny_truthy_bool ⟨.bl (!c), H1, I1, rfl, q1⟩)
end
end L2
namespace L2
open PySem PySem.Spec PyProof.Rows
/-! ### a list, a tuple that is read: tracked, frozen, or an object of the module -/
def SqL (K : PySem.W.Frag) (H : Hp) (a : Addr) (xs : List V) : Prop :=
  Rd H a (.lst xs) ∨
    ∃ (o : Obj) (its : Array Value) (n : Nat), K.lookup a = some o ∧ o.cls = .type "list" ∧ o.dict = none ∧ o.data = .seq its n ∧ its.size ≤ sizeLine ∧ Vals xs its.toList
def SqT (K : PySem.W.Frag) (H : Hp) (a : Addr) (xs : List V) : Prop :=
  Rd H a (.tup xs) ∨
    ∃ (o : Obj) (its : Array Value) (n : Nat), K.lookup a = some o ∧ o.cls = .type "tuple" ∧ o.data = .seq its n ∧ its.size ≤ sizeLine ∧ Vals xs its.toList
def absV : Value → Option V
  | .none => some .non
  | .bool b => some (.bl b)
  | .int i _ => some (.int i)
  | .str x _ => some (.str x)
  | .bytes b _ => some (.byt b)
  | .float b _ => some (.flt b)
  | .ref a => some (.ref a)
  | .type n => some (.ty n)
  | _ => none
theorem RelV.abs {x : V} {u : Value} (r : RelV x u) : absV u = some x := by
  cases x with
  | non => cases r; rfl
  | bl _ => cases r; rfl
  | int _ => obtain ⟨t, rfl⟩ := r; rfl
  | str _ => obtain ⟨t, rfl⟩ := r; rfl
  | byt _ => obtain ⟨t, rfl⟩ := r; rfl
  | flt _ => obtain ⟨t, rfl⟩ := r; rfl
  | ref _ => cases r; rfl
  | ty _ => cases r; rfl
theorem RelV.inj {x y : V} {u : Value} (r : RelV x u) (q : RelV y u) : x = y := Option.some.inj (r.abs.symm.trans q.abs)
theorem Vals.inj : ∀ {xs ys : List V} {us : List Value}, Vals xs us → Vals ys us → xs = ys
  | _, _, _, .nil, .nil => rfl
  | _, _, _, .cons r t, .cons r' t' => by rw [r.inj r', Vals.inj t t']
section
variable {X : Cx} {pins : List (Addr × Obj)} {σ : St} {H : Hp} {s : Shared} {a : Addr} {xs ys : List V}
theorem SqL.of {K : PySem.W.Frag} (h : H a = some (.lst xs)) : SqL K H a xs := .inl (.inl h)
theorem SqT.of {K : PySem.W.Frag} (h : H a = some (.tup xs)) : SqT K H a xs := .inl (.inl h)
theorem Inv.list (I : Inv X pins σ H s) (h : SqL X.K H a xs) : ∃ its : List Value, Vals xs its ∧ PlainL s.heap a its.toArray ∧ xs.length ≤ sizeLine := by
  rcases h with h | ⟨o, its, n, hk, hc, hd, hs, hz, r⟩
  · obtain ⟨z, its, n, r, e⟩ := h.ok I.hok
    exact ⟨its, r, ⟨_, n, e, rfl, rfl, rfl⟩, z⟩
  · refine ⟨its.toList, r, ⟨o, n, I.kIn a o hk, hc, hd, by simpa using hs⟩, ?_⟩
    have e := r.length
    simp only [Array.length_toList] at e
    omega
theorem Inv.tuple (I : Inv X pins σ H s) (h : SqT X.K H a xs) : ∃ its : List Value, Vals xs its ∧ IsTup s.heap a its.toArray ∧ xs.length ≤ sizeLine := by
  rcases h with h | ⟨o, its, n, hk, hc, hs, hz, r⟩
  · obtain ⟨z, its, r, p⟩ := h.ok I.hok
    exact ⟨its, r, p, z⟩
  · refine ⟨its.toList, r, ⟨o, I.kIn a o hk, hc, n, by simpa using hs⟩, ?_⟩
    have e := r.length
    simp only [Array.length_toList] at e
    omega
theorem Inv.list_inj (I : Inv X pins σ H s) (h : SqL X.K H a xs) (h' : SqL X.K H a ys) : xs = ys := by
  obtain ⟨its, r, ⟨o, n, e, _, _, d⟩, _⟩ := I.list h
  obtain ⟨its', r', ⟨o', n', e', _, _, d'⟩, _⟩ := I.list h'
  rw [e] at e'; cases e'
  rw [d] at d'
  injection d' with d1 _
  have : its = its' := by simpa using congrArg Array.toList d1
  subst this
  exact r.inj r'
end
/-! ### another wish about exceptions -/
abbrev Cx.wish (X : Cx) (E : Value → Shared → Prop) : Cx := { X with xe := E }
/-- no exception leaves -/
abbrev Cx.nox (X : Cx) : Cx := X.wish fun _ _ => False
theorem Cx.Ok.wish {X : Cx} (ok : X.Ok) (E : Value → Shared → Prop) : (X.wish E).Ok :=
  ⟨ok.mod, ok.kind, ok.glob, ok.blt, ok.above, ok.inj, ok.has, ok.cab, ok.hd, ok.frames, ok.stk, ok.exf, ok.bs, ok.bsz, ok.noex, ok.exfs, ok.funs, ok.frf⟩
theorem Cx.Ok.unwish {X : Cx} {E : Value → Shared → Prop} (ok : (X.wish E).Ok) : X.Ok :=
  ⟨ok.mod, ok.kind, ok.glob, ok.blt, ok.above, ok.inj, ok.has, ok.cab, ok.hd, ok.frames, ok.stk, ok.exf, ok.bs, ok.bsz, ok.noex, ok.exfs, ok.funs, ok.frf⟩
section
variable {X : Cx} {pins : List (Addr × Obj)} {σ : St} {H : Hp} {s : Shared} {E : Value → Shared → Prop}
theorem Inv.wish (I : Inv X pins σ H s) (E : Value → Shared → Prop) : Inv (X.wish E) pins σ H s := ⟨I.ok.wish E, I.os, I.bare, I.base, I.loc, I.cell, I.free, I.freeC, I.pin, I.hok, I.len⟩
theorem Inv.unwish (I : Inv (X.wish E) pins σ H s) : Inv X pins σ H s := ⟨I.ok.unwish, I.os, I.bare, I.base, I.loc, I.cell, I.free, I.freeC, I.pin, I.hok, I.len⟩
theorem SP.unwish {D : Ends} {f : Flow} {s' : Shared} (h : SP (X.wish E) pins D f s') : SP X pins D f s' := by
  cases f with
  | next => obtain ⟨σ', H', I, q⟩ := h; exact ⟨σ', H', I.unwish, q⟩
  | brk => obtain ⟨σ', H', I, q⟩ := h; exact ⟨σ', H', I.unwish, q⟩
  | cont => obtain ⟨σ', H', I, q⟩ := h; exact ⟨σ', H', I.unwish, q⟩
  | ret u => obtain ⟨v, σ', H', I, r, q⟩ := h; exact ⟨v, σ', H', I.unwish, r, q⟩
theorem PSs.nox {st : List Stmt} {t : TS} (h : PSs X.nox st t) : PSs X st t := fun pins s σ H D I hw =>
  wpAny_mono (h pins s σ H D (I.wish _) hw) (fun _ _ q => q.unwish) fun _ _ z => False.elim z
end
/-! ### blocks and small statements -/
section
variable {X : Cx} {st : Stmt} {rest : List Stmt} {t u : TS} {e : Expr} {te : TE} {pos : Pos}
def tNext : TS := fun D σ H => D.nx σ H
def tSeq (t u : TS) : TS := fun D σ H => t { D with nx := u D } σ H
theorem pss_nil : PSs X [] tNext := fun _ _ σ H _ I h => wpAny_execs_nil ⟨σ, H, I, h⟩
theorem pss_cons (h1 : PS X st t) (h2 : PSs X rest u) : PSs X (st :: rest) (tSeq t u) := by
  intro pins s σ H D I h
  refine wpAny_execs_cons (thn (h1 pins s σ H { D with nx := u D } I h) fun f s1 q => ?_)
  cases f with
  | next =>
    obtain ⟨σ', H', I', q⟩ := q
    exact h2 pins s1 σ' H' D I' q
  | ret v => exact q
  | brk => exact q
  | cont => exact q
theorem pss_one (h1 : PS X st t) : PSs X [st] t := by
  intro pins s σ H D I h
  refine wpAny_execs_cons (thn (h1 pins s σ H D I h) fun f s1 q => ?_)
  cases f with
  | next => exact wpAny_execs_nil q
  | ret v => exact q
  | brk => exact q
  | cont => exact q
/-- in a def's body nothing is shown -/
theorem Inv.quiet {pins : List (Addr × Obj)} {σ : St} {H : Hp} {s : Shared} (I : Inv X pins σ H s) : interactive X.env = false := by simp [interactive, I.ok.kind]
/-- an expression whose value is dropped -/
def tDrop (te : TE) : TS := fun D σ H => te σ H fun _ H1 => D.nx σ H1
theorem ps_expr (he : PE X e te) (hs : swapsWith e none pos.line X.env = pure false := by rfl) : PS X (.Expr e pos) (tDrop te) := by
  intro pins s σ H D I h
  exact wpAny_Expr_any (thnE (he pins s σ H _ I h) fun v s1 x H1 I1 r1 q1 => ⟨σ, H1, I1, q1⟩) I.quiet hs
def tRet (te : TE) : TS := fun D σ H => te σ H D.rt
theorem ps_ret (he : PE X e te) : PS X (.Return (some e) pos) (tRet te) := by
  intro pins s σ H D I h
  exact wpAny_Return_some (thnE (he pins s σ H _ I h) fun v s1 x H1 I1 r1 q1 => ⟨x, σ, H1, I1, r1, q1⟩)
def tIfS (c : TT) (t u : TS) : TS := fun D σ H => c σ H fun b H1 => if b = true then t D σ H1 else u D σ H1
theorem ps_if {c : Expr} {a b : List Stmt} {tc : TT} (hc : PT X c tc) (ha : PSs X a t) (hb : PSs X b u) : PS X (.If c a b pos) (tIfS tc t u) := by
  intro pins s σ H D I h
  refine wpAny_If (thn (hc pins s σ H _ I h) fun d s1 ⟨H1, I1, q1⟩ => ?_)
  cases d with
  | true => exact ha pins s1 σ H1 D I1 q1
  | false => exact hb pins s1 σ H1 D I1 q1
end
/-! ### targets -/
abbrev TG := V → St → Hp → (St → Hp → Prop) → Prop
abbrev TGs := List V → St → Hp → (St → Hp → Prop) → Prop
def PG (X : Cx) (target : Expr) (t : TG) : Prop :=
  ∀ (pins : List (Addr × Obj)) (s : Shared) (σ : St) (H : Hp) (v : V) (u : Value) (Q : St → Hp → Prop), Inv X pins σ H s → RelV v u → t v σ H Q →
    wpAny (model X.prog X.w) X.A (assign target X.env u) (fun _ s' => ∃ σ' H', Inv X pins σ' H' s' ∧ Q σ' H') X.xe s
/-- several targets, one after another -/
def PGs (X : Cx) (ts : List Expr) (t : TGs) : Prop :=
  ∀ (pins : List (Addr × Obj)) (s : Shared) (σ : St) (H : Hp) (vs : List V) (us : List Value) (Q : St → Hp → Prop), Inv X pins σ H s → Vals vs us → t vs σ H Q →
    wpAny (model X.prog X.w) X.A (assignInOrder ((assignEach ts X.env).map (·.2)) us) (fun _ s' => ∃ σ' H', Inv X pins σ' H' s' ∧ Q σ' H') X.xe s
section
variable {X : Cx} {pos : Pos}
def gName (i : Nat) : TG := fun v σ H Q => Q (σ.set i (some v)) H
theorem pg_name {i : Nat} {x : Str} (hN : X.N.Nodup) (hi : X.N[i]? = some x) (hx : Loc X.env.scope x) (hf : X.fn x = true ∨ X.env.scope.names.lookup x = some .local := by first | exact .inl rfl | exact .inr rfl | assumption) : PG X (.Name x pos) (gName i) := by
  intro pins s σ H v u Q I r h
  exact wpAny_assign_Name (store_ok I hN hi hx r (fun s' I' => ⟨_, H, I', h⟩) hf)
def gNil : TGs := fun vs σ H Q => vs = [] ∧ Q σ H
def gCons (t : TG) (u : TGs) : TGs := fun vs σ H Q => ∃ v r, vs = v :: r ∧ t v σ H fun σ' H' => u r σ' H' Q
theorem pgs_nil : PGs X [] gNil := by
  intro pins s σ H vs us Q I r h
  obtain ⟨e, h⟩ := h
  subst e
  cases r
  exact assignInOrder_nil ⟨σ, H, I, h⟩
theorem pgs_cons {e : Expr} {es : List Expr} {t : TG} {u : TGs} (h1 : PG X e t) (h2 : PGs X es u)
    (hs : (assignEach (e :: es) X.env).map (·.2) = assign e X.env :: (assignEach es X.env).map (·.2) := by rfl) : PGs X (e :: es) (gCons t u) := by
  intro pins s σ H vs us Q I r h
  obtain ⟨v, vr, e1, h⟩ := h
  subst e1
  cases r with
  | cons r rr =>
    rw [hs]
    refine assignInOrder_cons (thn (h1 pins s σ H _ _ _ I r h) fun _ s1 ⟨σ1, H1, I1, q1⟩ => ?_)
    exact h2 pins s1 σ1 H1 _ _ Q I1 rr q1
/-- (a, b, ..) = a tuple of that length -/
def gTup (K : PySem.W.Frag) (n : Nat) (t : TGs) : TG := fun v σ H Q => ∃ a xs, v = .ref a ∧ SqT K H a xs ∧ xs.length = n ∧ t xs σ H Q
theorem pg_tup {es : List Expr} {k : Nat} {t : TGs} {n : Nat} (hc : X.calm = true) (h : PGs X es t)
    (hn : (assignEach es X.env).length = n := by rfl) (hst : (assignEach es X.env).findIdx? (·.1) = none := by rfl) : PG X (.Tuple es k pos) (gTup X.K n t) := by
  intro pins s σ H v u Q I r hw
  obtain ⟨a, xs, e1, hq, hl, hw⟩ := hw
  subst e1
  cases r
  obtain ⟨its, rv, ht, hz⟩ := I.tuple hq
  refine assign_Tuple_tuple (I.ok.hd hc) ht (by simp [hn, ← hl, rv.length]) hst fun h' hx => ?_
  have I1 : Inv X pins σ H { s with heap := h' } := I.kept (t' := s.toks) fun b o e => hx b o (Nat.ne_of_lt (Heap.lt_size e)) e
  exact h pins _ σ H xs _ Q I1 (by simpa using rv) hw
/-- target = value -/
def tAsg (te : TE) (g : TG) : TS := fun D σ H => te σ H fun x H1 => g x σ H1 D.nx
/-- name = value -/
theorem ps_set {i : Nat} {x : Str} {e : Expr} {te : TE} {pos' : Pos} (hN : X.N.Nodup) (hi : X.N[i]? = some x) (hx : Loc X.env.scope x) (he : PE X e te) (hs : swapsWith e (some (.Name x pos')) pos.line X.env = pure false := by rfl) (hf : X.fn x = true ∨ X.env.scope.names.lookup x = some .local := by first | exact .inl rfl | exact .inr rfl | assumption) :
    PS X (.Assign [.Name x pos'] e pos) (tAsg te (gName i)) := by
  intro pins s σ H D I h
  refine wpAny_Assign_Name (thnE (he pins s σ H _ I h) fun v s1 y H1 I1 r1 q1 => ?_) hs
  exact store_ok I1 hN hi hx r1 (fun s2 I2 => ⟨_, H1, I2, q1⟩) hf
end
/-! ### while -/
/-! ### what a loop or a comprehension walks -/
/-- at turn i: it yields x (the heap may grow), or it stops -/
structure It where
  go : Nat → Hp → Prop
  yld : Nat → Hp → V → Hp → Prop
  stop : Nat → Hp → Prop
/-- the iterator's own objects may turn: they are not the frame's, not pinned, younger than the entry (or a comprehension's own) -/
def FpOk (X : Cx) (pins : List (Addr × Obj)) (H : Hp) (b : Addr) : Prop :=
  H b = none ∧ b ≠ X.env.locals ∧ b ∉ X.fs ∧ (b ∈ X.ex ∨ X.s₀.heap.objs.size ≤ b) ∧ (∀ x c, X.env.cells.lookup x = some c → c ≠ b) ∧ ∀ p ∈ X.pn ++ pins, p.1 ≠ b
theorem Inv.fpOk {X : Cx} {pins : List (Addr × Obj)} {σ : St} {H H' : Hp} {s : Shared} {b : Addr} (I : Inv X pins σ H s) (hb : s.heap.objs.size ≤ b) (hn : H' b = none) : FpOk X pins H' b := by
  refine ⟨hn, Nat.ne_of_gt (Nat.lt_of_lt_of_le I.lt hb), I.nofs hb, .inr (Nat.le_trans I.sz hb), fun x c e z => ?_, fun p hp z => ?_⟩
  · obtain ⟨v, q⟩ := I.cell x c e
    exact absurd (Nat.lt_of_lt_of_le q.lt (by rw [z]; exact hb)) (Nat.lt_irrefl _)
  · exact absurd (Nat.lt_of_lt_of_le (Heap.lt_size (I.pin p hp).1) (by rw [z]; exact hb)) (Nat.lt_irrefl _)
structure Turn (P : Program) (w : World) (K : PySem.W.Frag) (tg : Expr) (J : It) (fp : List Addr) (it : Addr) (tn : Nat → Heap → Prop) : Prop where
  mem : it ∈ fp
  obj : ∀ i h, tn i h → ∀ b ∈ fp, ∃ o, h.get? b = some o ∧ ∀ v, o.data ≠ .cell v
  keep : ∀ i h h', tn i h → (∀ b ∈ fp, ∀ o, h.get? b = some o → h'.get? b = some o) → tn i h'
  item : ∀ (X : Cx), X.prog = P → X.w = w → X.K = K → X.calm = true → ∀ (i : Nat) (pins : List (Addr × Obj)) (s : Shared) (σ : St) (H : Hp) (E : Value → Shared → Prop), Inv X pins σ H s → (∀ b ∈ fp, FpOk X pins H b) → tn i s.heap → J.go i H →
    wpAny (model P w) X.A (pyNext (.ref it)) (fun r s1 => ∃ u, r = some u ∧
      wpAny (model P w) X.A (letOwnedTupleGo tg (.ref it) u) (fun _ s2 => ∃ x H', Inv X pins σ H' s2 ∧ RelV x u ∧ J.yld i H x H' ∧ tn (i + 1) s2.heap ∧ ∀ b ∈ fp, H' b = none) E s1) E s
  done : ∀ (X : Cx), X.prog = P → X.w = w → X.K = K → X.calm = true → ∀ (i : Nat) (pins : List (Addr × Obj)) (s : Shared) (σ : St) (H : Hp) (E : Value → Shared → Prop), Inv X pins σ H s → (∀ b ∈ fp, FpOk X pins H b) → tn i s.heap → J.stop i H →
    wpAny (model P w) X.A (pyNext (.ref it)) (fun r s1 => r = none ∧ Inv X pins σ H s1) E s
  self : ∀ (A : Around) (i : Nat) (s : Shared) (Q : Value → Shared → Prop) (E : Value → Shared → Prop), tn i s.heap → Q (.ref it) s → wpAny (model P w) A (pyIter (.ref it)) Q E s
abbrev TI := St → Hp → (It → Hp → Prop) → Prop
/-- an iterator has come -/
def PIE (X : Cx) (pins : List (Addr × Obj)) (σ : St) (tg : Expr) (R : It → Hp → Prop) (itv : Value) (s2 : Shared) : Prop :=
  ∃ (it : Addr) (fp : List Addr) (tn : Nat → Heap → Prop) (J : It) (H' : Hp), itv = .ref it ∧ Inv X pins σ H' s2 ∧ Turn X.prog X.w X.K tg J fp it tn ∧ tn 0 s2.heap ∧ (∀ b ∈ fp, FpOk X pins H' b) ∧ R J H'
def PI (X : Cx) (tg iter : Expr) (wi : TI) : Prop :=
  ∀ (pins : List (Addr × Obj)) (s : Shared) (σ : St) (H : Hp) (R : It → Hp → Prop), Inv X pins σ H s → wi σ H R →
    wpAny (model X.prog X.w) X.A (eval iter X.env) (fun v s1 => wpAny (model X.prog X.w) X.A (pyIter v) (PIE X pins σ tg R) X.xe s1) X.xe s
/-- the step ahead of the store is nothing for an iterator that keeps no tuple -/
theorem go_of {M : Model} {A : Around} {E : Value → Shared → Prop} {s : Shared} {tg : Expr} {it : Addr} {u : Value} {o : Obj} {n : String} {vs : Array Value} {Q : Unit → Shared → Prop} (ho : s.heap.get? it = some o) (hc : o.cls = .type n) (hd : o.data = .fields vs)
    (hn : ["enumerate", "zip", "dict_itemiterator", "dict_reverseitemiterator", "odict_iterator", "itertools.zip_longest", "itertools.pairwise"].contains n = false) (hQ : Q () s) : wpAny M A (letOwnedTupleGo tg (.ref it) u) Q E s := by
  unfold letOwnedTupleGo
  cases tg <;> first
    | exact wpAny_pure hQ
    | (cases u <;> first
        | exact wpAny_pure hQ
        | (refine wpAny_bind (wpAny_load ho ?_)
           rw [hc, hd]
           show wpAny M A (if (["enumerate", "zip", "dict_itemiterator", "dict_reverseitemiterator", "odict_iterator", "itertools.zip_longest", "itertools.pairwise"].contains n && vs[0]? == some (rawInt _)) = true then _ else _) Q E s
           rw [if_neg (by intro h; rw [hn, Bool.false_and] at h; cases h)]
           exact wpAny_pure hQ))
/-- the list at a, as it stands at each turn (a loop may append to it) -/
def Itl (K : PySem.W.Frag) (a : Addr) : It :=
  ⟨fun i H => ∃ xs x, SqL K H a xs ∧ xs[i]? = some x, fun i H x H' => H' = H ∧ ∀ xs, SqL K H a xs → xs[i]? = some x, fun i H => ∃ xs, SqL K H a xs ∧ xs.length ≤ i⟩
/-- lo, lo + 1, .. (n of them) -/
def Itr (lo : Int) (n : Nat) : It := ⟨fun i _ => i < n, fun i H x H' => H' = H ∧ x = .int (lo + i), fun i _ => n ≤ i⟩
theorem turn_list {P : Program} {w : World} {K : PySem.W.Frag} {tg : Expr} (a it : Addr) : Turn P w K tg (Itl K a) [it] it (fun i h => h.IsListIter it a i) where
  mem := by simp
  obj := fun i h st b hb => by
    have e : b = it := by simpa using hb
    subst e
    obtain ⟨o, e, c, d⟩ := st
    exact ⟨o, e, fun v z => by rw [d] at z; cases z⟩
  keep := fun i h h' st k => st.at fun o e => k it (by simp) o e
  item := by
    intro X hP hw hK hc i pins s σ H E I hf st hg
    subst hP hw hK
    obtain ⟨xs, x, hq, hx⟩ := hg
    obtain ⟨its, rv, p, hz⟩ := I.list hq
    obtain ⟨u, hu, ru⟩ := rv.get hx
    obtain ⟨f0, f1, f2, f3, f4, f5⟩ := hf it (by simp)
    refine wpAny_pyNext_list_item st p.isList (x := u) (by simpa using hu) fun h' st' sb => ?_
    have I1 : Inv X pins σ H { s with heap := h' } := I.turned (t' := s.toks) (fun b o hb e => (sb.2 b hb).trans e) f0 f1 f3 f4 f5
    obtain ⟨o, e, c, d⟩ := id st'
    exact ⟨u, rfl, go_of (s := { s with heap := h' }) e c d (by decide) ⟨x, H, I1, ru, ⟨rfl, fun ys hy => by rw [I.list_inj hy hq]; exact hx⟩, st', fun b hb => (hf b hb).1⟩⟩
  done := by
    intro X hP hw hK hc i pins s σ H E I hf st hg
    subst hP hw hK
    obtain ⟨xs, hq, hx⟩ := hg
    obtain ⟨its, rv, p, hz⟩ := I.list hq
    obtain ⟨f0, f1, f2, f3, f4, f5⟩ := hf it (by simp)
    have hl := rv.length
    exact wpAny_pyNext_list_end (I.ok.hd hc) st p.isList (by simp; omega) fun h' eb => ⟨rfl, I.turned (t' := s.toks) (fun b o hb e => eb b o hb e) f0 f1 f3 f4 f5⟩
  self := fun _ _ _ _ _ st h => wpAny_pyIter_listiter st h
theorem turn_range {P : Program} {w : World} {K : PySem.W.Frag} {tg : Expr} (it : Addr) (lo : Int) (n : Nat) : Turn P w K tg (Itr lo n) [it] it (fun i h => IsRangeIter h it (lo + (i : Nat) * 1) ((n : Int) - (i : Nat)) 1) where
  mem := by simp
  obj := fun i h st b hb => by
    have e : b = it := by simpa using hb
    subst e
    exact ⟨_, st, fun v z => by
      have z' : Data.fields _ = Data.cell v := z
      cases z'⟩
  keep := fun i h h' st k => k it (by simp) _ st
  item := by
    intro X hP hw hK hc i pins s σ H E I hf st hg
    subst hP hw hK
    obtain ⟨f0, f1, f2, f3, f4, f5⟩ := hf it (by simp)
    have W := Walks.range (prog := X.prog) (w := X.w) (I.ok.hd hc) it lo 1 n
    refine W.item i s _ _ hg st fun v h' tk hv st' kk => ?_
    obtain ⟨t, rfl⟩ := hv
    have I1 : Inv X pins σ H { s with heap := h', toks := tk } := I.turned (fun b o hb e => kk b o (by simpa using hb) e) f0 f1 f3 f4 f5
    refine ⟨_, rfl, go_of (s := { s with heap := h', toks := tk }) (n := "range_iterator") st' rfl rfl (by decide) ⟨.int (lo + i), H, I1, ⟨t, ?_⟩, ⟨rfl, rfl⟩, st', fun b hb => (hf b hb).1⟩⟩
    rw [Int.mul_one]
  done := by
    intro X hP hw hK hc i pins s σ H E I hf st hg
    subst hP hw hK
    obtain ⟨f0, f1, f2, f3, f4, f5⟩ := hf it (by simp)
    exact wpAny_pyNext_range_end (I.ok.hd hc) st (by have : n ≤ i := hg; omega) fun h' eb => ⟨rfl, I.turned (t' := s.toks) (fun b o hb e => eb b o hb e) f0 f1 f3 f4 f5⟩
  self := fun _ _ _ _ _ st h => wpAny_pyIter_rangeiter st h
end L2
namespace L2
open PySem PySem.Spec PyProof.Rows
section
variable {X : Cx} {tg : Expr}
def iList (K : PySem.W.Frag) (tl : TE) : TI := fun σ H R => tl σ H fun x H1 => ∃ a, x = .ref a ∧ (∃ xs, SqL K H1 a xs) ∧ R (Itl K a) H1
theorem pi_list {l : Expr} {tl : TE} (hl : PE X l tl) : PI X tg l (iList X.K tl) := by
  intro pins s σ H R I h
  refine thnE (hl pins s σ H _ I h) fun v s1 x H1 I1 r1 q1 => ?_
  obtain ⟨a, e, ⟨xs, hq⟩, q⟩ := q1
  subst e
  cases r1
  obtain ⟨its, rv, p, hz⟩ := I1.list hq
  refine wpAny_pyIter_list p.isList ?_
  refine ⟨s1.heap.objs.size, [s1.heap.objs.size], _, _, H1, rfl, I1.kept (t' := s1.toks) fun b o e => Heap.get?_push_of_some _ e, turn_list a _, ⟨_, Heap.get?_push_size _ rfl, rfl, rfl⟩, fun b hb => ?_, q⟩
  have e : b = s1.heap.objs.size := by simpa using hb
  subst e
  exact I1.fpOk (Nat.le_refl _) (I1.hok.fresh (Nat.le_refl _))
/-- a range object just made, walked -/
theorem range_it {pins : List (Addr × Obj)} {σ : St} {H : Hp} {s : Shared} {R : It → Hp → Prop} {E : Value → Shared → Prop} {lo hi : Int} {t u v : Tok} {tk : Nat} (I : Inv X pins σ H s) (h1 : -(2 ^ 62) ≤ lo) (h2 : lo < 2 ^ 62) (h3 : -(2 ^ 62) ≤ hi) (h4 : hi < 2 ^ 62)
    (q : R (Itr lo (hi - lo).toNat) H) : wpAny (model X.prog X.w) X.A (pyIter (.ref s.heap.objs.size)) (PIE X pins σ tg R) E { s with heap := s.heap.push { cls := .type "range", data := .fields #[.int lo t, .int hi u, .int 1 v] }, toks := tk } := by
  refine wpAny_pyIter_range (IsRange.new ..) (small_one h1 h2 h3 h4) ?_
  have I1 : Inv X pins σ H { s with heap := s.heap.push { cls := .type "range", data := .fields #[.int lo t, .int hi u, .int 1 v] }, toks := tk } := I.kept fun b o e => Heap.get?_push_of_some _ e
  refine ⟨(s.heap.push { cls := .type "range", data := .fields #[.int lo t, .int hi u, .int 1 v] }).objs.size, [(s.heap.push { cls := .type "range", data := .fields #[.int lo t, .int hi u, .int 1 v] }).objs.size], _, _, H, rfl,
    I1.kept (t' := tk) fun b o e => Heap.get?_push_of_some _ e, turn_range _ lo (hi - lo).toNat, ?_, fun b hb => ?_, q⟩
  · have e1 : lo + ((0 : Nat) : Int) * 1 = lo := by simp
    have e2 : (((hi - lo).toNat : Nat) : Int) - ((0 : Nat) : Int) = Builtin.Range.rangeSize lo hi 1 := by rw [rangeSize_one]; split <;> omega
    show IsRangeIter _ _ (lo + ((0 : Nat) : Int) * 1) ((((hi - lo).toNat : Nat) : Int) - ((0 : Nat) : Int)) 1
    rw [e1, e2]
    exact Heap.get?_push_size _ rfl
  · have e : b = (s.heap.push { cls := .type "range", data := .fields #[.int lo t, .int hi u, .int 1 v] }).objs.size := by simpa using hb
    subst e
    exact I1.fpOk (Nat.le_refl _) (I1.hok.fresh (Nat.le_refl _))
def iRng1 (ta : TA) : TI := fun σ H R => ta σ H fun vs H1 => ∃ j : Int, vs = [.int j] ∧ -(2 ^ 62) ≤ j ∧ j < 2 ^ 62 ∧ R (Itr 0 j.toNat) H1
def iRng2 (ta : TA) : TI := fun σ H R => ta σ H fun vs H1 => ∃ i j : Int, vs = [.int i, .int j] ∧ (-(2 ^ 62) ≤ i ∧ i < 2 ^ 62 ∧ -(2 ^ 62) ≤ j ∧ j < 2 ^ 62) ∧ R (Itr i (j - i).toNat) H1
theorem pi_range1 {a : Expr} {ta : TA} {p pos : Pos} (hg : Gl X "range") (hm : X.mg "range" = none) (ha : PA X [a] ta) (hs : starEach [a] X.env = [(false, eval a X.env)] := by rfl) : PI X tg (.Call (.Name "range" p) [a] [] pos) (iRng1 ta) := by
  intro pins s σ H R I h
  refine Call_ (ld_blt I hg hm boot_range (PyProof.Rows.callWith_type1 (thn (ha pos pins s σ H _ I h) fun us s1 ⟨vs, H1, I1, r1, q1⟩ => ?_) hs rfl))
  obtain ⟨j, e, q1, q2, q⟩ := q1
  subst e
  cases r1 with
  | cons r rr =>
    cases rr
    obtain ⟨t, rfl⟩ := r
    exact call_range_1 (range_it I1 (by omega) (by omega) q1 q2 (by simpa using q))
theorem pi_range2 {a b : Expr} {ta : TA} {p pos : Pos} (hg : Gl X "range") (hm : X.mg "range" = none) (ha : PA X [a, b] ta) (hs : starEach [a, b] X.env = [(false, eval a X.env), (false, eval b X.env)] := by rfl) (hs2 : starEach [b] X.env = [(false, eval b X.env)] := by rfl) :
    PI X tg (.Call (.Name "range" p) [a, b] [] pos) (iRng2 ta) := by
  intro pins s σ H R I h
  refine Call_ (ld_blt I hg hm boot_range (PyProof.Rows.callWith_type1 (thn (ha pos pins s σ H _ I h) fun us s1 ⟨vs, H1, I1, r1, q1⟩ => ?_) (by rw [hs, hs2]) (by rw [hs2]; rfl)))
  obtain ⟨i, j, e, ⟨q1, q2, q3, q4⟩, q⟩ := q1
  subst e
  cases r1 with
  | cons r rr =>
    cases rr with
    | cons r' rr =>
      cases rr
      obtain ⟨t, rfl⟩ := r
      obtain ⟨t', rfl⟩ := r'
      exact call_range_2 (range_it I1 q1 q2 q3 q4 q)
/-! ### for -/
/-- W: the invariant by the turn and a measure; N: what the body is to reach -/
def tFor (wi : TI) (g : TG) (tb : TS) : TS := fun D σ H => wi σ H fun J H1 => ∃ W : Nat → Nat → St → Hp → Prop, (∃ m, W 0 m σ H1) ∧ ∀ i m σ H, W i m σ H →
  (J.stop i H ∧ D.nx σ H) ∨ (J.go i H ∧ ∃ N : St → Hp → Prop, (∀ σ' H', N σ' H' → ∃ m', m' < m ∧ W (i + 1) m' σ' H') ∧ ∀ x H', J.yld i H x H' → g x σ H' fun σ2 H2 => tb { D with nx := N, ct := N, bk := D.nx } σ2 H2)
/-- the records at fp as they stand -/
def pinsAt (fp : List Addr) (h : Heap) : List (Addr × Obj) := fp.filterMap fun b => (h.get? b).map fun o => (b, o)
theorem mem_pinsAt {fp : List Addr} {h : Heap} {b : Addr} {o : Obj} (hb : b ∈ fp) (e : h.get? b = some o) : (b, o) ∈ pinsAt fp h := List.mem_filterMap.mpr ⟨b, hb, by rw [e]; rfl⟩
theorem of_pinsAt {fp : List Addr} {h : Heap} {p : Addr × Obj} (hp : p ∈ pinsAt fp h) : p.1 ∈ fp ∧ h.get? p.1 = some p.2 := by
  obtain ⟨b, hb, e⟩ := List.mem_filterMap.mp hp
  cases q : h.get? b with
  | none => rw [q] at e; cases e
  | some o =>
    rw [q] at e
    have e' : (b, o) = p := Option.some.inj e
    subst e'
    exact ⟨hb, q⟩
theorem Inv.pinned {pins : List (Addr × Obj)} {σ : St} {H : Hp} {s : Shared} {fp : List Addr} (I : Inv X pins σ H s) (hf : ∀ b ∈ fp, FpOk X pins H b) (ho : ∀ b ∈ fp, ∃ o, s.heap.get? b = some o ∧ ∀ v, o.data ≠ .cell v) : Inv X (pins ++ pinsAt fp s.heap) σ H s :=
  I.pins_of fun p hp => (List.mem_append.mp hp).elim (fun z => I.pin p (List.mem_append_right _ z)) fun z => by
    obtain ⟨hb, e⟩ := of_pinsAt z
    obtain ⟨f0, f1, f2, _⟩ := hf p.1 hb
    obtain ⟨o, e', d⟩ := ho p.1 hb
    rw [e] at e'; cases e'
    exact ⟨e, f0, f1, f2, d⟩
theorem Inv.unpinned {pins pl : List (Addr × Obj)} {σ : St} {H : Hp} {s : Shared} (I : Inv X (pins ++ pl) σ H s) : Inv X pins σ H s := I.pins_of fun p hp => I.pin p (List.mem_append_right _ (List.mem_append_left _ hp))
theorem ps_for {iter : Expr} {body : List Stmt} {wi : TI} {g : TG} {tb : TS} {pos : Pos} (hp : PassesOwn (model X.prog X.w) X.A X.env X.xe) (hc : X.calm = true) (hi : PI X tg iter wi) (hg : PG X tg g) (hb : PSs X body tb)
    (hs : ∀ x, foldedSetIterable iter X.env x = pure x := by intro _; rfl) : PS X (.For tg iter body [] pos) (tFor wi g tb) := by
  intro pins s σ H D I h
  refine wpAny_For (thn (hi pins s σ H _ I h) fun v s1 h1 => thn h1 fun itv s2 h2 => ?_) hs
  obtain ⟨it, fp, tn, J, H2, e, I2, T, st2, f2, W, ⟨m0, w0⟩, turn⟩ := h2
  subst e
  -- what stays true of the iterator's objects through the loop
  have stat : ∀ {H' : Hp}, (∀ b ∈ fp, H' b = none) → ∀ b ∈ fp, FpOk X pins H' b := fun hn b hb => ⟨hn b hb, (f2 b hb).2⟩
  refine codeAny_forLoop_any (fun n s' => ∃ i σ' H', Inv X pins σ' H' s' ∧ tn i s'.heap ∧ (∀ b ∈ fp, H' b = none) ∧ W i n σ' H') ?_ m0 ⟨0, σ, H2, I2, st2, fun b hb => (f2 b hb).1, w0⟩
  rintro n s3 ⟨i, σ3, H3, I3, st3, fr3, w3⟩
  rcases turn i n σ3 H3 w3 with ⟨stop, qn⟩ | ⟨go, N, hN, step⟩
  · refine wpAny_passesOwn hp (thn (T.done X rfl rfl rfl hc i pins s3 σ3 H3 X.xe I3 (stat fr3) st3 stop) fun r s4 ⟨hr, I4⟩ => ?_)
    subst hr
    exact wpAny_execs_nil ⟨σ3, H3, I4, qn⟩
  · refine wpAny_passesOwn hp (thn (T.item X rfl rfl rfl hc i pins s3 σ3 H3 X.xe I3 (stat fr3) st3 go) fun r s4 ⟨u, hr, h4⟩ => ?_)
    subst hr
    refine wpAny_passesOwn hp (thn h4 fun _ s5 ⟨x, H5, I5, r5, y5, st5, fr5⟩ => ?_)
    have I5' := I5.pinned (stat fr5) (T.obj _ _ st5)
    refine wpAny_passesOwn hp (thn (hg _ s5 σ3 H5 x u _ I5' r5 (step x H5 y5)) fun _ s6 ⟨σ6, H6, I6, q6⟩ => ?_)
    refine wpAny_passesOwn hp (thn (hb _ s6 σ6 H6 _ I6 q6) fun f s7 q7 => ?_)
    have again : ∀ {σ7 : St} {H7 : Hp}, Inv X (pins ++ pinsAt fp s5.heap) σ7 H7 s7 → N σ7 H7 → ∃ m, m < n ∧ ∃ i σ' H', Inv X pins σ' H' s7 ∧ tn i s7.heap ∧ (∀ b ∈ fp, H' b = none) ∧ W i m σ' H' := fun {σ7 H7} I7 n7 => by
      obtain ⟨m', hm, w7⟩ := hN σ7 H7 n7
      refine ⟨m', hm, i + 1, σ7, H7, I7.unpinned, T.keep _ _ _ st5 fun b hb o e => (I7.pin (b, o) (List.mem_append_right _ (List.mem_append_right _ (mem_pinsAt hb e)))).1, fun b hb => ?_, w7⟩
      obtain ⟨o, e, d⟩ := T.obj _ _ st5 b hb
      exact (I7.pin (b, o) (List.mem_append_right _ (List.mem_append_right _ (mem_pinsAt hb e)))).2.1
    cases f with
    | next => obtain ⟨σ7, H7, I7, n7⟩ := q7; exact again I7 n7
    | cont => obtain ⟨σ7, H7, I7, n7⟩ := q7; exact again I7 n7
    | brk => obtain ⟨σ7, H7, I7, q7⟩ := q7; exact ⟨σ7, H7, I7.unpinned, q7⟩
    | ret v => obtain ⟨x7, σ7, H7, I7, r7, q7⟩ := q7; exact ⟨x7, σ7, H7, I7.unpinned, r7, q7⟩
end
/-! ### the forms one uses -/
/-- over a list that the body leaves as it is -/
theorem for_list {K : PySem.W.Frag} {a : Addr} {xs : List V} {g : TG} {tb : TS} {D : Ends} {σ : St} {H : Hp} (Pv : Nat → St → Hp → Prop) (h0 : Pv 0 σ H) (hl : ∀ i σ H, i ≤ xs.length → Pv i σ H → SqL K H a xs)
    (hs : ∀ i x σ H, xs[i]? = some x → Pv i σ H → g x σ H fun σ2 H2 => tb { D with nx := Pv (i + 1), ct := Pv (i + 1), bk := D.nx } σ2 H2) (hd : ∀ σ H, Pv xs.length σ H → D.nx σ H) :
    ∃ W : Nat → Nat → St → Hp → Prop, (∃ m, W 0 m σ H) ∧ ∀ i m σ H, W i m σ H →
      ((Itl K a).stop i H ∧ D.nx σ H) ∨ ((Itl K a).go i H ∧ ∃ N : St → Hp → Prop, (∀ σ' H', N σ' H' → ∃ m', m' < m ∧ W (i + 1) m' σ' H') ∧ ∀ x H', (Itl K a).yld i H x H' → g x σ H' fun σ2 H2 => tb { D with nx := N, ct := N, bk := D.nx } σ2 H2) := by
  refine ⟨fun i m σ H => m = xs.length - i ∧ i ≤ xs.length ∧ Pv i σ H, ⟨xs.length, by simp, Nat.zero_le _, h0⟩, ?_⟩
  rintro i m σ H ⟨rfl, hi, p⟩
  have q := hl i σ H hi p
  by_cases hlt : i < xs.length
  · refine .inr ⟨⟨xs, xs[i], q, by simp [hlt]⟩, Pv (i + 1), fun σ' H' p' => ⟨xs.length - (i + 1), by omega, rfl, hlt, p'⟩, fun x H' y => ?_⟩
    obtain ⟨e, y⟩ := y
    subst e
    exact hs i x σ _ (y xs q) p
  · have e : i = xs.length := by omega
    subst e
    exact .inl ⟨⟨xs, q, Nat.le_refl _⟩, hd σ H p⟩
theorem for_range {lo : Int} {n : Nat} {g : TG} {tb : TS} {D : Ends} {σ : St} {H : Hp} (Pv : Nat → St → Hp → Prop) (h0 : Pv 0 σ H)
    (hs : ∀ i σ H, i < n → Pv i σ H → g (.int (lo + i)) σ H fun σ2 H2 => tb { D with nx := Pv (i + 1), ct := Pv (i + 1), bk := D.nx } σ2 H2) (hd : ∀ σ H, Pv n σ H → D.nx σ H) :
    ∃ W : Nat → Nat → St → Hp → Prop, (∃ m, W 0 m σ H) ∧ ∀ i m σ H, W i m σ H →
      ((Itr lo n).stop i H ∧ D.nx σ H) ∨ ((Itr lo n).go i H ∧ ∃ N : St → Hp → Prop, (∀ σ' H', N σ' H' → ∃ m', m' < m ∧ W (i + 1) m' σ' H') ∧ ∀ x H', (Itr lo n).yld i H x H' → g x σ H' fun σ2 H2 => tb { D with nx := N, ct := N, bk := D.nx } σ2 H2) := by
  refine ⟨fun i m σ H => m = n - i ∧ i ≤ n ∧ Pv i σ H, ⟨n, by simp, Nat.zero_le _, h0⟩, ?_⟩
  rintro i m σ H ⟨rfl, hi, p⟩
  by_cases hlt : i < n
  · refine .inr ⟨hlt, Pv (i + 1), fun σ' H' p' => ⟨n - (i + 1), by omega, rfl, hlt, p'⟩, fun x H' y => ?_⟩
    obtain ⟨e, y⟩ := y
    subst e y
    exact hs i σ _ hlt p
  · have e : i = n := by omega
    subst e
    exact .inl ⟨Nat.le_refl _, hd σ H p⟩
end L2
namespace L2
open PySem PySem.Spec PyProof.Rows
abbrev R2 := V → V → Hp → VK → Prop
/-- a two-place operation on values: f is binaryOp op, inplaceOp op or compareOp op -/
def OpR (X : Cx) (f : Value → Value → Sem Value) (r : R2) : Prop :=
  ∀ (pins : List (Addr × Obj)) (s : Shared) (σ : St) (H : Hp) (x y : V) (v u : Value) (Q : VK), Inv X pins σ H s → RelV x v → RelV y u → r x y H Q →
    wpAny (model X.prog X.w) X.A (f v u) (EP X pins σ Q) X.xe s
/-- a one-place operation -/
def UnR (X : Cx) (f : Value → Sem Value) (r : V → Hp → VK → Prop) : Prop :=
  ∀ (pins : List (Addr × Obj)) (s : Shared) (σ : St) (H : Hp) (x : V) (v : Value) (Q : VK), Inv X pins σ H s → RelV x v → r x H Q →
    wpAny (model X.prog X.w) X.A (f v) (EP X pins σ Q) X.xe s
/-- a call of a value that is known (a builtin, a type) with values -/
def CallR (X : Cx) (f : Value) (r : List V → Hp → VK → Prop) : Prop :=
  ∀ (pins : List (Addr × Obj)) (s : Shared) (σ : St) (H : Hp) (xs : List V) (us : List Value) (Q : VK), Inv X pins σ H s → Vals xs us → r xs H Q →
    wpAny (model X.prog X.w) X.A (call f us) (EP X pins σ Q) X.xe s
def tOp (r : R2) (ta tb : TE) : TE := fun σ H Q => ta σ H fun x H1 => tb σ H1 fun y H2 => r x y H2 Q
def tUn (r : V → Hp → VK → Prop) (ta : TE) : TE := fun σ H Q => ta σ H fun x H1 => r x H1 Q
/-- ints in, under C, and a value out -/
def rI (C : Int → Int → Prop) (g : Int → Int → V) : R2 := fun x y H Q => ∃ i j, x = .int i ∧ y = .int j ∧ C i j ∧ Q (g i j) H
def rI0 (g : Int → Int → V) : R2 := fun x y H Q => ∃ i j, x = .int i ∧ y = .int j ∧ Q (g i j) H
def rU (g : Int → V) : V → Hp → VK → Prop := fun x H Q => ∃ i, x = .int i ∧ Q (g i) H
section
variable {X : Cx} {a b c : Expr} {ta tb tc : TE} {pos : Pos}
theorem binT (ha : PE X a ta) (hb : PE X b tb) {pins : List (Addr × Obj)} {s : Shared} {σ : St} {H : Hp} {R : V → V → Hp → Prop} (I : Inv X pins σ H s)
    (h : ta σ H fun x H1 => tb σ H1 fun y H2 => R x y H2) {Q : Value → Shared → Prop} {f : Value → Value → Sem Value}
    (hf : ∀ v u s2 x y H2, Inv X pins σ H2 s2 → RelV x v → RelV y u → R x y H2 → wpAny (model X.prog X.w) X.A (f v u) Q X.xe s2) :
    wpAny (model X.prog X.w) X.A (eval a X.env) (fun v s₁ => wpAny (model X.prog X.w) X.A (eval b X.env) (fun u s₂ => wpAny (model X.prog X.w) X.A (f v u) Q X.xe s₂) X.xe s₁) X.xe s := by
  refine thnE (ha pins s σ H _ I h) fun v s1 x H1 I1 r1 q1 => ?_
  refine thnE (hb pins s1 σ H1 _ I1 q1) fun u s2 y H2 I2 r2 q2 => ?_
  exact hf v u s2 x y H2 I2 r1 r2 q2
theorem pe_op {op : Operator} {r : R2} (ho : OpR X (binaryOp op) r) (ha : PE X a ta) (hb : PE X b tb) : PE X (.BinOp a op b pos) (tOp r ta tb) := by
  intro pins s σ H Q I h
  exact wpAny_BinOp (binT ha hb I h fun v u s2 x y H2 I2 rx ry q => ho pins s2 σ H2 x y v u Q I2 rx ry q)
theorem pe_un {op : UnaryOp} {r : V → Hp → VK → Prop} (ho : UnR X (unaryOp op) r) (ha : PE X a ta) : PE X (.UnaryOp op a pos) (tUn r ta) := by
  intro pins s σ H Q I h
  exact UnaryOp_ (thnE (ha pins s σ H _ I h) fun v s1 x H1 I1 r1 q1 => ho pins s1 σ H1 x v Q I1 r1 q1)
/-! ### ints -/
theorem opI {f : Value → Value → Sem Value} {C : Int → Int → Prop} {g : Int → Int → Int}
    (rule : ∀ (i j : Int) (t u : Tok) (s : Shared) (Q : Value → Shared → Prop) (E : Value → Shared → Prop), C i j → Q (.int (g i j) s.toks) { s with toks := s.toks + 1 } → wpAny (model X.prog X.w) X.A (f (.int i t) (.int j u)) Q E s) :
    OpR X f (rI C fun i j => .int (g i j)) := by
  intro pins s σ H x y v u Q I rx ry h
  obtain ⟨i, j, rfl, rfl, hc, q⟩ := h
  obtain ⟨t, rfl⟩ := rx
  obtain ⟨t', rfl⟩ := ry
  exact rule i j t t' s _ _ hc ⟨.int (g i j), H, I.tok _, ⟨_, rfl⟩, q⟩
theorem opI0 {f : Value → Value → Sem Value} {g : Int → Int → Int}
    (rule : ∀ (i j : Int) (t u : Tok) (s : Shared) (Q : Value → Shared → Prop) (E : Value → Shared → Prop), Q (.int (g i j) s.toks) { s with toks := s.toks + 1 } → wpAny (model X.prog X.w) X.A (f (.int i t) (.int j u)) Q E s) :
    OpR X f (rI0 fun i j => .int (g i j)) := by
  intro pins s σ H x y v u Q I rx ry h
  obtain ⟨i, j, rfl, rfl, q⟩ := h
  obtain ⟨t, rfl⟩ := rx
  obtain ⟨t', rfl⟩ := ry
  exact rule i j t t' s _ _ ⟨.int (g i j), H, I.tok _, ⟨_, rfl⟩, q⟩
theorem opB0 {f : Value → Value → Sem Value} {g : Int → Int → Bool}
    (rule : ∀ (i j : Int) (t u : Tok) (s : Shared) (Q : Value → Shared → Prop) (E : Value → Shared → Prop), Q (.bool (g i j)) s → wpAny (model X.prog X.w) X.A (f (.int i t) (.int j u)) Q E s) :
    OpR X f (rI0 fun i j => .bl (g i j)) := by
  intro pins s σ H x y v u Q I rx ry h
  obtain ⟨i, j, rfl, rfl, q⟩ := h
  obtain ⟨t, rfl⟩ := rx
  obtain ⟨t', rfl⟩ := ry
  exact rule i j t t' s _ _ ⟨.bl (g i j), H, I, rfl, q⟩
def CMul (i j : Int) : Prop := (-(2 ^ 64) < i ∧ i < 2 ^ 64) ∨ (-(2 ^ 64) < j ∧ j < 2 ^ 64)
theorem CMul.ok {i j : Int} (h : CMul i j) : IntMulOk i j := by
  rcases h with ⟨h1, h2⟩ | ⟨h1, h2⟩
  · exact .of_left (intBits_le_64 h1 h2)
  · exact .of_right (intBits_le_64 h1 h2)
theorem op_add : OpR X (binaryOp .Add) (rI0 fun i j => .int (i + j)) := opI0 fun _ _ _ _ _ _ _ q => add_int q
theorem op_sub : OpR X (binaryOp .Sub) (rI0 fun i j => .int (i - j)) := opI0 fun _ _ _ _ _ _ _ q => sub_int q
theorem op_mul : OpR X (binaryOp .Mult) (rI CMul fun i j => .int (i * j)) := opI fun _ _ _ _ _ _ _ hc q => mul_int q hc.ok
/-- % by a positive divisor of any size -/
theorem op_mod : OpR X (binaryOp .Mod) (rI (fun _ j => 0 < j) fun i j => .int (i % j)) := opI fun i j _ _ _ _ _ hc q => by
  have h1 : (0 : Int) < j := hc
  exact mod_int' (by omega) (by rw [Int.fmod_eq_emod_of_nonneg i (by omega)]; exact q)
theorem unI {f : Value → Sem Value} {g : Int → Int}
    (rule : ∀ (i : Int) (t : Tok) (s : Shared) (Q : Value → Shared → Prop) (E : Value → Shared → Prop), Q (.int (g i) s.toks) { s with toks := s.toks + 1 } → wpAny (model X.prog X.w) X.A (f (.int i t)) Q E s) :
    UnR X f (rU fun i => .int (g i)) := by
  intro pins s σ H x v Q I rx h
  obtain ⟨i, rfl, q⟩ := h
  obtain ⟨t, rfl⟩ := rx
  exact rule i t s _ _ ⟨.int (g i), H, I.tok _, ⟨_, rfl⟩, q⟩
theorem un_neg : UnR X (unaryOp .USub) (rU fun i => .int (-i)) := unI fun _ _ _ _ _ q => neg_int q
/-! ### bools among ints: n += (a < b) -/
end
/-! ### comparisons -/
/-- the scalars that == tells apart as data does -/
def scal : V → V → Bool
  | .non, .non => true | .non, .int _ => true | .int _, .non => true | .non, .bl _ => true | .bl _, .non => true | .non, .str _ => true | .str _, .non => true
  | .int _, .int _ => true | .bl _, .bl _ => true | .str _, .str _ => true | .byt _, .byt _ => true
  | .int _, .str _ => true | .str _, .int _ => true | .bl _, .str _ => true | .str _, .bl _ => true
  | _, _ => false
def rEq : R2 := fun x y H Q => scal x y = true ∧ Q (.bl (decide (x = y))) H
def rNe : R2 := fun x y H Q => scal x y = true ∧ Q (.bl (!decide (x = y))) H
theorem dec_int {i j : Int} : decide (V.int i = V.int j) = (i == j) := by
  rw [Bool.eq_iff_iff]
  simp
theorem dec_bl {i j : Bool} : decide (V.bl i = V.bl j) = (i == j) := by
  rw [Bool.eq_iff_iff]
  simp
theorem dec_str {i j : Str} : decide (V.str i = V.str j) = (i == j) := by
  rw [Bool.eq_iff_iff]
  simp
theorem dec_byt {i j : Array UInt8} : decide (V.byt i = V.byt j) = (i.toList == j.toList) := by
  rw [Bool.eq_iff_iff]
  cases i
  cases j
  simp
section
variable {X : Cx} {a b c : Expr} {ta tb tc : TE} {pos : Pos}
theorem fin_bl {pins : List (Addr × Obj)} {σ : St} {H : Hp} {s : Shared} {Q : VK} {k k' : Bool} (I : Inv X pins σ H s) (q : Q (.bl k) H) (e : k = k') : EP X pins σ Q (.bool k') s := by
  subst e
  exact ⟨.bl k, H, I, rfl, q⟩
theorem op_eq : OpR X (compareOp .Eq) rEq := by
  intro pins s σ H x y v u Q I rx ry h
  obtain ⟨hs, q⟩ := h
  cases x with
  | non =>
    cases rx
    cases y with
    | non => cases ry; exact PySem.EqNone.eq_none_none (fin_bl I q (by simp))
    | bl j => cases ry; exact PySem.EqNone.eq_none_bool (fin_bl I q (by simp))
    | int j => obtain ⟨t', rfl⟩ := ry; exact PySem.EqNone.eq_none_int (fin_bl I q (by simp))
    | str j => obtain ⟨t', rfl⟩ := ry; exact PySem.EqNone.eq_none_str (fin_bl I q (by simp))
    | _ => exact absurd (show false = true from hs) Bool.false_ne_true
  | bl i =>
    cases rx
    cases y with
    | non => cases ry; exact PySem.EqNone.eq_bool_none (fin_bl I q (by simp))
    | bl j => cases ry; exact eq_bool (fin_bl I q dec_bl)
    | str j => obtain ⟨t', rfl⟩ := ry; exact PySem.EqMixed.eq_bool_str (fin_bl I q (by simp))
    | _ => exact absurd (show false = true from hs) Bool.false_ne_true
  | int i =>
    obtain ⟨t, rfl⟩ := rx
    cases y with
    | non => cases ry; exact PySem.EqNone.eq_int_none (fin_bl I q (by simp))
    | int j => obtain ⟨t', rfl⟩ := ry; exact eq_int (fin_bl I q dec_int)
    | str j => obtain ⟨t', rfl⟩ := ry; exact PySem.EqMixed.eq_int_str (fin_bl I q (by simp))
    | _ => exact absurd (show false = true from hs) Bool.false_ne_true
  | str i =>
    obtain ⟨t, rfl⟩ := rx
    cases y with
    | non => cases ry; exact PySem.EqNone.eq_str_none (fin_bl I q (by simp))
    | bl j => cases ry; exact PySem.EqMixed.eq_str_bool (fin_bl I q (by simp))
    | int j => obtain ⟨t', rfl⟩ := ry; exact PySem.EqMixed.eq_str_int (fin_bl I q (by simp))
    | str j => obtain ⟨t', rfl⟩ := ry; exact eq_str (fin_bl I q dec_str)
    | _ => exact absurd (show false = true from hs) Bool.false_ne_true
  | byt i =>
    obtain ⟨t, rfl⟩ := rx
    cases y with
    | byt j => obtain ⟨t', rfl⟩ := ry; exact PySem.W.eq_bytes (fin_bl I q dec_byt)
    | _ => exact absurd (show false = true from hs) Bool.false_ne_true
  | _ => cases y <;> exact absurd (show false = true from hs) Bool.false_ne_true
theorem op_ne : OpR X (compareOp .NotEq) rNe := by
  intro pins s σ H x y v u Q I rx ry h
  obtain ⟨hs, q⟩ := h
  cases x with
  | non =>
    cases rx
    cases y with
    | non => cases ry; exact PySem.EqNone.ne_none_none (fin_bl I q (by simp))
    | bl j => cases ry; exact PySem.EqNone.ne_none_bool (fin_bl I q (by simp))
    | int j => obtain ⟨t', rfl⟩ := ry; exact PySem.EqNone.ne_none_int (fin_bl I q (by simp))
    | str j => obtain ⟨t', rfl⟩ := ry; exact PySem.EqNone.ne_none_str (fin_bl I q (by simp))
    | _ => exact absurd (show false = true from hs) Bool.false_ne_true
  | bl i =>
    cases rx
    cases y with
    | non => cases ry; exact PySem.EqNone.ne_bool_none (fin_bl I q (by simp))
    | bl j => cases ry; exact ne_bool (fin_bl I q (congrArg not dec_bl))
    | str j => obtain ⟨t', rfl⟩ := ry; exact PySem.EqMixed.ne_bool_str (fin_bl I q (by simp))
    | _ => exact absurd (show false = true from hs) Bool.false_ne_true
  | int i =>
    obtain ⟨t, rfl⟩ := rx
    cases y with
    | non => cases ry; exact PySem.EqNone.ne_int_none (fin_bl I q (by simp))
    | int j => obtain ⟨t', rfl⟩ := ry; exact ne_int (fin_bl I q (congrArg not dec_int))
    | str j => obtain ⟨t', rfl⟩ := ry; exact PySem.EqMixed.ne_int_str (fin_bl I q (by simp))
    | _ => exact absurd (show false = true from hs) Bool.false_ne_true
  | str i =>
    obtain ⟨t, rfl⟩ := rx
    cases y with
    | non => cases ry; exact PySem.EqNone.ne_str_none (fin_bl I q (by simp))
    | bl j => cases ry; exact PySem.EqMixed.ne_str_bool (fin_bl I q (by simp))
    | int j => obtain ⟨t', rfl⟩ := ry; exact PySem.EqMixed.ne_str_int (fin_bl I q (by simp))
    | str j => obtain ⟨t', rfl⟩ := ry; exact ne_str (fin_bl I q (congrArg not dec_str))
    | _ => exact absurd (show false = true from hs) Bool.false_ne_true
  | byt i =>
    obtain ⟨t, rfl⟩ := rx
    cases y with
    | byt j => obtain ⟨t', rfl⟩ := ry; exact PySem.W.ne_bytes (fin_bl I q (congrArg not dec_byt))
    | _ => exact absurd (show false = true from hs) Bool.false_ne_true
  | _ => cases y <;> exact absurd (show false = true from hs) Bool.false_ne_true
theorem op_le : OpR X (compareOp .LtE) (rI0 fun i j => .bl (decide (i ≤ j))) := opB0 fun _ _ _ _ _ _ _ q => le_int q
theorem op_gt : OpR X (compareOp .Gt) (rI0 fun i j => .bl (decide (j < i))) := opB0 fun _ _ _ _ _ _ _ q => gt_int q
/-- the one string within the other -/
theorem op_in_str : OpR X (compareOp .In) (fun x y H Q => ∃ i j, x = .str i ∧ y = .str j ∧ Q (.bl (!(Builtin.Str.occurrences j i 0 j.length 1).isEmpty)) H) := by
  intro pins s σ H x y v u Q I rx ry h
  obtain ⟨i, j, rfl, rfl, q⟩ := h
  obtain ⟨t, rfl⟩ := rx
  obtain ⟨t', rfl⟩ := ry
  exact in_str (fin_bl I q rfl)
theorem nomark (b : Expr) {op : CmpOp} (h : op ≠ .In := by decide) (h2 : op ≠ .NotIn := by decide) : behindInMarks op b = false := by
  have e1 : (op == CmpOp.In) = false := by cases op <;> first | rfl | exact absurd rfl h
  have e2 : (op == CmpOp.NotIn) = false := by cases op <;> first | rfl | exact absurd rfl h2
  cases b <;> simp [behindInMarks, e1, e2]
/-- a comparison as a value; hm: nomark b, or (for in, not in) by with_unfolding_all rfl -/
theorem pe_cmpR {op : CmpOp} {r : R2} (ho : OpR X (compareOp op) r) (ha : PE X a ta) (hb : PE X b tb) (hm : behindInMarks op b = false) : PE X (.Compare a [op] [b] pos) (tOp r ta tb) := by
  intro pins s σ H Q I h
  exact wpAny_Compare1 (binT ha hb I h fun v u s2 x y H2 I2 rx ry q => ho pins s2 σ H2 x y v u Q I2 rx ry q) hm
/-- a reading of a value as a test -/
def tTest (t : TE) : TT := fun σ H Q => t σ H fun x H' => ∃ k, x = .bl k ∧ Q k H'
theorem pt_cmpR {op : CmpOp} {r : R2} (ho : OpR X (compareOp op) r) (ha : PE X a ta) (hb : PE X b tb) (hm : behindInMarks op b = false) : PT X (.Compare a [op] [b] pos) (tTest (tOp r ta tb)) := by
  intro pins s σ H Q I h
  refine wpAny_isTrue_Compare1 (thnE (ha pins s σ H _ I h) fun v s1 x H1 I1 r1 q1 => thnE (hb pins s1 σ H1 _ I1 q1) fun u s2 y H2 I2 r2 q2 =>
    thn (ho pins s2 σ H2 x y v u _ I2 r1 r2 q2) fun c s3 ⟨z, H3, I3, r3, k, e, q3⟩ => ?_) hm
  subst e
  cases r3
  exact wpAny_truthy_bool ⟨H3, I3, q3⟩
/-! ### truth -/
theorem line63 : (sizeLine : Nat) < 2 ^ 63 := by rw [sizeLine_eq]; decide
/-! ### strs and bytes -/
theorem op_add_str : OpR X (binaryOp .Add) (fun x y H Q => ∃ i j, x = .str i ∧ y = .str j ∧ i.length + j.length ≤ sizeLine ∧ Q (.str (i ++ j)) H) := by
  intro pins s σ H x y v u Q I rx ry h
  obtain ⟨i, j, rfl, rfl, hz, q⟩ := h
  obtain ⟨t, rfl⟩ := rx
  obtain ⟨t', rfl⟩ := ry
  exact add_str (fun t' tk => ⟨.str (i ++ j), H, I.tok _, ⟨_, rfl⟩, q⟩) hz
/-! ### scalar builtins, by CallR -/
theorem vals1 {x : V} {us : List Value} (r : Vals [x] us) : ∃ u, us = [u] ∧ RelV x u := by
  cases r with
  | cons r1 r2 => cases r2; exact ⟨_, rfl, r1⟩
theorem vals2 {x y : V} {us : List Value} (r : Vals [x, y] us) : ∃ u w', us = [u, w'] ∧ RelV x u ∧ RelV y w' := by
  cases r with
  | cons r1 r2 =>
    cases r2 with
    | cons r3 r4 => cases r4; exact ⟨_, _, rfl, r1, r3⟩
theorem call_str_int : CallR X (.type "str") (fun xs H Q => ∃ i, xs = [.int i] ∧ i.natAbs.log2 < 1920 ∧ Q (.str (toString i)) H) := by
  intro pins s σ H xs us Q I r h
  obtain ⟨i, rfl, hz, q⟩ := h
  obtain ⟨u, rfl, t, rfl⟩ := vals1 r
  exact PySem.P.str_of_int hz ⟨.str _, H, I.tok _, ⟨_, rfl⟩, q⟩
end
end L2
namespace L2
open PySem PySem.Spec PyProof.Rows
/-! ### an instance, its attributes a map -/
structure ObjM (h : Heap) (x dx C : Addr) (mA : Str → Option Value) : Prop where
  obj : h.get? x = some (PySem.W.instObj C dx)
  ns : h.Ns1 dx mA
  ne : dx ≠ x
theorem lookIn_ns {h : Heap} {dx : Addr} {mA : Str → Option Value} (n : h.Ns1 dx mA) : ∃ od, h.get? dx = some od ∧ ∀ name, PySem.W.lookIn name od = some (mA name) := by
  obtain ⟨o, es, ep, ho, hd, hk, _, hm⟩ := n
  refine ⟨o, ho, fun name => ?_⟩
  have e := hm name
  unfold nsFind findBy at e
  rw [← Array.find?_toList] at e
  unfold PySem.W.lookIn
  rw [hd]
  dsimp only
  split
  · rename_i y q
    rw [q] at e
    exact congrArg some e
  · rename_i q
    rw [q] at e
    have a : es.toList.any (·.refKey) = false := by
      rw [List.any_eq_false]
      intro y hy
      obtain ⟨z, t, hkey⟩ := hk y (Array.mem_toList_iff.mp hy)
      simp [DictEntry.refKey, hkey]
    have a' : ¬ es.toList.any (·.refKey) = true := by rw [a]; exact Bool.false_ne_true
    rw [if_neg a']
    exact congrArg some e
theorem ObjM.look {h : Heap} {x dx C : Addr} {mA : Str → Option Value} (I : ObjM h x dx C mA) : ∃ od, PySem.W.InstAt h x (PySem.W.instObj C dx) C (some od) ∧ ∀ name, PySem.W.lookIn name od = some (mA name) :=
  let ⟨od, ho, hl⟩ := lookIn_ns I.ns
  ⟨od, ⟨I.obj, rfl, rfl, ho⟩, hl⟩
/-! ### the attributes as a list of pairs -/
theorem RelO.some_of {v : V} {o : Option Value} (r : RelO (some v) o) : ∃ u, o = some u ∧ RelV v u := by
  cases o with
  | none => exact (show False from r).elim
  | some u => exact ⟨u, rfl, r⟩
section
variable {P : Program} {w : World} {H H' : Hp} {h h' : Heap} {a C dx : Addr} {fs fs' : List (Str × V)}
theorem ins_get (hok : HOk P w H h) (e : H a = some (.ins C dx fs)) : ∃ mA, ObjM h a dx C mA ∧ (∀ f, RelO (fs.lookup f) (mA f)) ∧ PySem.Within mA (fs.map (·.1)) ∧ fs.length ≤ 1000 ∧ H dx = some (.own a) := by
  obtain ⟨d, z, ne, ob, mA, n, r, q⟩ := (show ObjOk P w H h a (.ins C dx fs) from hok a _ e)
  exact ⟨mA, ⟨ob, n, ne⟩, r, q, z, d⟩
end
/-! ### what of the text a class must have -/
structure Cls (K : PySem.W.Frag) (C : Addr) : Prop where
  pg : PySem.W.plainGet K C Str.empty = true
  hd : PySem.W.hasDictIn K C = true
  po : PySem.W.plainOver K C = true
  sa : PySem.W.findIn K (.ref C) "__setattr__" = some (some (.builtin "object.__setattr__"))
theorem Cls.get {K : PySem.W.Frag} {C : Addr} (c : Cls K C) (f : Str) : PySem.W.plainGet K C f = true := c.pg
/-! ### readings and rules -/
/-! ### isinstance -/
section
variable {X : Cx} {pins : List (Addr × Obj)} {σ : St} {H : Hp} {s : Shared} {A : Around} {E : Value → Shared → Prop} {Q : Value → Shared → Prop} {c : Value} {b : Bool}
/-- the type of a value, as the fragment's deciders take it; for an instance its class -/
inductive TyOf (K : PySem.W.Frag) (H : Hp) : V → Value → Prop where
  | non : TyOf K H .non (.type "NoneType")
  | bl (x : Bool) : TyOf K H (.bl x) (.type "bool")
  | int (i : Int) : TyOf K H (.int i) (.type "int")
  | str (x : Str) : TyOf K H (.str x) (.type "str")
  | flt (x : UInt64) : TyOf K H (.flt x) (.type "float")
  | lst {a : Addr} {xs : List V} (e : H a = some (.lst xs)) : TyOf K H (.ref a) (.type "list")
  | frz {a : Addr} {o : Obj} {xs : List V} (e : H a = some (.frz o (.lst xs))) : TyOf K H (.ref a) (.type "list")
  | tup {a : Addr} {xs : List V} (e : H a = some (.tup xs)) : TyOf K H (.ref a) (.type "tuple")
  | dK {a : Addr} {kvs : List (Key × V)} (e : H a = some (.dK kvs)) : TyOf K H (.ref a) (.type "dict")
  | dT {a : Addr} {kvs : List (List Key × V)} (e : H a = some (.dT kvs)) : TyOf K H (.ref a) (.type "dict")
  | ins {a C dx : Addr} {fs : List (Str × V)} (e : H a = some (.ins C dx fs)) (cl : Cls K C) (ha : PySem.W.findIn K (.ref C) "__class__" = some (some (.builtin "object.__class__")))
      (hn : PySem.W.specialIn K (.builtin "object.__class__") "__get__" = some (some (.builtin "getset_descriptor.__get__"))) (htk : PySem.W.takesIn K (.builtin "object.__class__") = some true)
      (hm : PySem.W.mroIn K C (.type "object") = some true) : TyOf K H (.ref a) (.ref C)
/-- isinstance(x, c) for one class c, a built-in or an own one: kitOne's answer -/
theorem isinst_ok {x : V} {u t : Value} (I : Inv X pins σ H s) (rx : RelV x u) (ty : TyOf X.K H x t) (e : PySem.W.kitOne X.K t c = some b) (h : ∀ tk, Q (.bool b) { s with toks := tk }) :
    wpAny (model X.prog X.w) A (call (.builtin "isinstance") [u, c]) Q E s := by
  cases ty with
  | non => cases (show u = Value.none from rx); exact PySem.W.kia_one PySem.W.kitx_none I.kIn True.intro e (fun z => nomatch z) h
  | bl y => cases (show u = Value.bool y from rx); exact PySem.W.kia_one PySem.W.kitx_bool I.kIn True.intro e (fun z => nomatch z) h
  | int i => obtain ⟨t, q⟩ := (show ∃ t, u = Value.int i t from rx); cases q; exact PySem.W.kia_one PySem.W.kitx_int I.kIn True.intro e (fun z => nomatch z) h
  | str y => obtain ⟨t, q⟩ := (show ∃ t, u = Value.str y t from rx); cases q; exact PySem.W.kia_one PySem.W.kitx_str I.kIn True.intro e (fun z => nomatch z) h
  | flt y => obtain ⟨t, q⟩ := (show ∃ t, u = Value.float y t from rx); cases q; exact PySem.W.kia_one PySem.W.kitx_float I.kIn True.intro e (fun z => nomatch z) h
  | @lst a xs ea =>
    cases (show u = Value.ref a from rx)
    obtain ⟨_, _, n, _, h1⟩ := (show ObjOk X.prog X.w H s.heap a (.lst xs) from I.hok a _ ea)
    exact PySem.W.kia_one PySem.W.kitx_list I.kIn ⟨_, h1, rfl⟩ e (fun z => nomatch z) h
  | @frz a ob xs ea =>
    cases (show u = Value.ref a from rx)
    obtain ⟨_, _, _, n, _, h1⟩ := (show ObjOk X.prog X.w H s.heap a (.frz ob (.lst xs)) from I.hok a _ ea)
    exact PySem.W.kia_one PySem.W.kitx_list I.kIn ⟨_, h1, rfl⟩ e (fun z => nomatch z) h
  | @tup a xs ea =>
    cases (show u = Value.ref a from rx)
    obtain ⟨_, _, _, p⟩ := (show ObjOk X.prog X.w H s.heap a (.tup xs) from I.hok a _ ea)
    obtain ⟨o, h1, h2, _⟩ := p
    exact PySem.W.kia_one PySem.W.kitx_tuple I.kIn ⟨o, h1, h2⟩ e (fun z => nomatch z) h
  | @dK a kvs ea =>
    cases (show u = Value.ref a from rx)
    obtain ⟨_, _, vs, _, p⟩ := (show ObjOk X.prog X.w H s.heap a (.dK kvs) from I.hok a _ ea)
    obtain ⟨o, es, ep, h1, h2, _⟩ := p
    exact PySem.W.kia_one PySem.W.kitx_dict I.kIn ⟨o, h1, h2.1⟩ e (fun z => nomatch z) h
  | @dT a kvs ea =>
    cases (show u = Value.ref a from rx)
    obtain ⟨_, _, xs, _, o, es, ep, h1, h2, _⟩ := (show ObjOk X.prog X.w H s.heap a (.dT kvs) from I.hok a _ ea)
    exact PySem.W.kia_one PySem.W.kitx_dict I.kIn ⟨o, h1, h2.1⟩ e (fun z => nomatch z) h
  | @ins a C dx fs ea cl ha hn htk hm =>
    cases (show u = Value.ref a from rx)
    obtain ⟨mA, O, _⟩ := ins_get I.hok ea
    obtain ⟨od, J, _⟩ := O.look
    exact PySem.W.kia_one (PySem.W.kitx_own (cl.get _) cl.hd ha hn htk hm) I.kIn J e (fun z => nomatch z) h
end
end L2
namespace L2
open PySem PySem.Spec PyProof.Rows
/-! ### room -/
structure Room (k : Nat) (A : Around) : Prop where
  hd : A.handled = none
  dp : A.depth + 3 * k + 5 < recursionLimit
  un : A.units + 16 * k + 200 < cLine
theorem Room.mono {j k : Nat} {A : Around} (r : Room k A) (h : j ≤ k) : Room j A := ⟨r.hd, by have := r.dp; omega, by have := r.un; omega⟩
theorem Room.deeper {k : Nat} {A : Around} (r : Room (k + 1) A) (env : Env) : Room k (A.deeper env) :=
  ⟨r.hd, by have := r.dp; show A.depth + 1 + 3 * k + 5 < _; omega, by have := r.un; show A.units + 3 + 16 * k + 200 < _; omega⟩
theorem Room.depth {k : Nat} {A : Around} (r : Room k A) : A.depth < recursionLimit := by have := r.dp; omega
theorem Room.units {k : Nat} {A : Around} (r : Room k A) : A.units + 64 < cLine := by have := r.un; omega
/-! ### argument lists and displays -/
def tNil : TA := fun _ H Q => Q [] H
def tCons (ta : TE) (tr : TA) : TA := fun σ H Q => ta σ H fun x H1 => tr σ H1 fun xs H2 => Q (x :: xs) H2
section
variable {X : Cx} {e : Expr} {es : List Expr} {te : TE} {t : TA} {pos : Pos}
theorem pa_nil : PA X [] tNil := fun _ _ _ _ H Q I h => Calls.spliced_nil ⟨[], H, I, .nil, h⟩
theorem pa_cons (ha : PE X e te) (hr : PA X es t) (hs : starEach (e :: es) X.env = (false, eval e X.env) :: starEach es X.env := by rfl) : PA X (e :: es) (tCons te t) := by
  intro pos pins s σ H Q I h
  rw [hs]
  show wpAny _ _ (spliced ((false, eval e X.env) :: backTo pos (starEach es X.env))) _ _ s
  refine Calls.spliced_cons (thnE (ha pins s σ H _ I h) fun u s1 x H1 I1 r1 q1 => ?_)
  exact thn (hr pos pins s1 σ H1 _ I1 q1) fun us s2 ⟨xs, H2, I2, r2, q2⟩ => ⟨x :: xs, H2, I2, .cons r1 r2, q2⟩
/-- a tuple, a list of written items -/
def tTup (t : TA) : TE := fun σ H Q => t σ H fun xs H1 => xs.length ≤ sizeLine ∧ ∀ p, H1 p = none → Q (.ref p) (upd H1 p (.tup xs))
def tLst (t : TA) : TE := fun σ H Q => t σ H fun xs H1 => xs.length ≤ sizeLine ∧ ∀ p, H1 p = none → Q (.ref p) (upd H1 p (.lst xs))
theorem pe_tup {x1} (h : PA X es t) : PE X (.Tuple es x1 pos) (tTup t) := by
  intro pins s σ H Q I hq
  refine wpAny_Tuple_spliced (thn (h pos pins s σ H _ I hq) fun us s1 ⟨xs, H1, I1, r, z, q⟩ => ⟨by rw [← r.length]; exact z, ?_⟩)
  have hf : H1 s1.heap.objs.size = none := I1.hok.fresh (Nat.le_refl _)
  refine ⟨.ref s1.heap.objs.size, upd H1 s1.heap.objs.size (.tup xs), I1.laid (t' := s1.toks) (fun b u e => Heap.get?_push_of_some _ e) (Nat.le_refl _) ?_, rfl, q _ hf⟩
  exact ⟨z, us, r, ⟨_, Heap.get?_push_size _ rfl, rfl, _, rfl⟩⟩
theorem pe_lst (h : PA X es t) : PE X (.List es pos) (tLst t) := by
  intro pins s σ H Q I hq
  refine wpAny_List_spliced (thn (h pos pins s σ H _ I hq) fun us s1 ⟨xs, H1, I1, r, z, q⟩ => ⟨by rw [← r.length]; exact z, ?_⟩)
  have hf : H1 s1.heap.objs.size = none := I1.hok.fresh (Nat.le_refl _)
  refine ⟨.ref s1.heap.objs.size, upd H1 s1.heap.objs.size (.lst xs), I1.laid (t' := s1.toks) (fun b u e => Heap.get?_push_of_some _ e) (Nat.le_refl _) ?_, rfl, q _ hf⟩
  exact ⟨z, us, 0, r, Heap.get?_push_size _ rfl⟩
end
/-! ### what a def promises -/
/-- a def's promise: the bound arguments in the parameters' order, the heap, the wanted end, the wanted exception -/
abbrev Sp := List V → Hp → VK → XK → Prop
/-- how an exception lies behind a call (file 08 gives it): the callers' frames, abstract heap and state ahead of the call, the wish, the exception, the state -/
abbrev CXT := List Env → Hp → Shared → XK → Value → Shared → Prop
/-- the state at a call -/
structure Env0 (P : Program) (w : World) (K : PySem.W.Frag) (mg : Str → Option Value) (base : Heap) (A : Around) (outer : List Env) (s : Shared) (H : Hp) : Prop where
  frames : A.frames = some outer
  mod : Mod K mg base
  bs : ∀ b o, base.get? b = some o → s.heap.get? b = some o ∧ H b = none
  bsz : base.objs.size ≤ s.heap.objs.size
  funs : s.heap.FunFrames base outer
  frf : ∀ b ∈ frs outer, H b = none
  hok : HOk P w H s.heap
  bare : AllBare s.gens
/-- a call's end -/
def CE (outer : List Env) (P : Program) (w : World) (H : Hp) (s : Shared) (Q : VK) (u : Value) (s' : Shared) : Prop :=
  ∃ v H', s'.os = s.os ∧ AllBare s'.gens ∧ Un (frs outer) [] H H' s.heap s'.heap ∧ HOk P w H' s'.heap ∧ RelV v u ∧ Q v H'
def CR (CX : CXT) (outer : List Env) (P : Program) (w : World) (H : Hp) (s : Shared) (Q : VK) (E : XK) (r : Result) (s' : Shared) : Prop :=
  match r with
  | .ok (.ret u) => CE outer P w H s Q u s'
  | .ok _ => False
  | .error e => CX outer H s E e s'
structure FnOk (P : Program) (w : World) (K : PySem.W.Frag) (mg : Str → Option Value) (base : Heap) (CX : CXT) (k : Nat) (f : Addr) (fd : FuncData) (ps : List Str) (sp : Sp) : Prop where
  len : ∀ vs H Q E, sp vs H Q E → vs.length = ps.length
  run : ∀ (A : Around) (outer : List Env) (s : Shared) (H : Hp) (args : Args) (us : List Value) (vs : List V) (Q : VK) (E : XK), Room k A → Env0 P w K mg base A outer s H → BindsTo s fd args (ps.zip us) → Vals vs us → sp vs H Q E →
    codeAny (model P w) A (.call (.ref f) args) (CR CX outer P w H s Q E) s
section
variable {X : Cx} {pins : List (Addr × Obj)} {σ : St} {H : Hp} {s s' : Shared}
/-- from a body: what a callee wants -/
theorem Inv.env0 (I : Inv X pins σ H s) : Env0 X.prog X.w X.K X.mg X.base X.A X.stack s H :=
  ⟨I.ok.frames, I.ok.mod, I.bs, Nat.le_trans I.ok.bsz I.sz, I.stack, I.stkFree, I.hok, I.bare⟩
/-- behind a call -/
theorem Inv.after {Q : VK} {u : Value} (I : Inv X pins σ H s) (h : CE X.stack X.prog X.w H s Q u s') : EP X pins σ Q u s' := by
  obtain ⟨v, H', os, bare, un, hok, r, q⟩ := h
  obtain ⟨hh, g, d, t, os'⟩ := s'
  obtain rfl : os' = s.os := os
  exact ⟨v, H', I.call (h' := hh) (g' := g) (d' := d) (t' := t) (ch := []) un hok bare (fun b z => absurd z (by simp)), r, q⟩
end
/-! ### calls -/
/-- f(..): the written arguments, then the defaults dvs; E: what is wanted of an exception -/
def tCall (sp : Sp) (dvs : List V) (E : XK) (t : TA) : TE := fun σ H Q => t σ H fun vs H1 => sp (vs ++ dvs) H1 Q E
/-- how the parameters are bound: us the positional arguments, kw the keywords' values by name, ds the defaults that fill up -/
def Binds (K : PySem.W.Frag) (fd : FuncData) (ps : List Str) (ds : List Value) : Prop :=
  ∀ (s : Shared) (us : List Value), K.In s.heap → (us ++ ds).length = ps.length → BindsTo s fd ⟨us, []⟩ (ps.zip (us ++ ds))
/-- every parameter is given -/
theorem Binds.all {K : PySem.W.Frag} {fd : FuncData} {ps : List Str} (h : ∀ us : List Value, us.length = ps.length → bindArgs fd ⟨us, []⟩ = pure (ps.zip us)) : Binds K fd ps [] := fun s us _ hl => by
  rw [List.append_nil] at hl ⊢
  exact .of_eq (h us hl)
/-- an exception of a callee reaches what this body wants of exceptions -/
def Passes (CX : CXT) (X : Cx) (E : XK) : Prop := ∀ (pins : List (Addr × Obj)) (σ : St) (H : Hp) (s : Shared) (e : Value) (s' : Shared), Inv X pins σ H s → CX X.stack H s E e s' → X.xe e s'
section
variable {X : Cx} {CX : CXT} {k : Nat} {f C : Addr} {fd : FuncData} {ps : List Str} {sp : Sp} {dvs : List V} {ds : List Value} {E : XK} {x m : Str} {p pos apos : Pos} {e o : Expr} {es : List Expr} {ta : TE} {t : TA}
/-- the callee runs -/
theorem run_fn {pins : List (Addr × Obj)} {σ : St} {H : Hp} {s : Shared} {Q : VK} {us : List Value} {vs : List V} (F : FnOk X.prog X.w X.K X.mg X.base CX k f fd ps sp) (hr : Room k X.A) (hb : Binds X.K fd ps ds) (hd : Vals dvs ds) (hx : Passes CX X E)
    (I : Inv X pins σ H s) (r : Vals vs us) (h : sp (vs ++ dvs) H Q E) : wpAny (model X.prog X.w) X.A (call (.ref f) us) (EP X pins σ Q) X.xe s := by
  have r2 : Vals (vs ++ dvs) (us ++ ds) := r.append hd
  have hl : (us ++ ds).length = ps.length := by rw [← r2.length]; exact F.len _ _ _ _ h
  refine wpAny_call (codeAny_mono (F.run X.A X.stack s H ⟨us, []⟩ (us ++ ds) (vs ++ dvs) Q E hr I.env0 (hb s us I.kIn hl) r2 h) fun r s' hq => ?_)
  cases r with
  | error e => exact hx pins σ H s e s' I hq
  | ok fl =>
    cases fl with
    | ret u => exact I.after hq
    | next => exact False.elim hq
    | brk => exact False.elim hq
    | cont => exact False.elim hq
theorem pe_call (F : FnOk X.prog X.w X.K X.mg X.base CX k f fd ps sp) (hr : Room k X.A) (hg : Gl X x) (hm : X.mg x = some (.ref f)) (hk : PySem.W.keepIn X.K (.ref f) = true) (hb : Binds X.K fd ps ds) (hd : Vals dvs ds) (hx : Passes CX X E)
    (ha : PA X (e :: es) t) (hdb : (x == ("__debug__" : Str)) = false := by decide) (he : starEach (e :: es) X.env = (false, eval e X.env) :: starEach es X.env := by rfl) (hpl : (backTo pos (starEach es X.env)).any (·.1) = false := by rfl) :
    PE X (.Call (.Name x p) (e :: es) [] pos) (tCall sp dvs E t) := by
  intro pins s σ H Q I h
  refine wpAny_Call_Name_kw (ld_glob I hg hm ?_ hdb)
  refine PySem.W.callWith_K (h₀ := X.base) I.ok.mod.kin hk (thn (ha pos pins s σ H _ I h) fun us s1 ⟨vs, H1, I1, r, q⟩ => ⟨I1.kIn, ?_⟩) he hpl
  exact run_fn F hr hb hd hx I1 r q
end
/-! ### keywords -/
/-! ### a def's body keeps its promise -/
/-- names: the parameters first -/
structure FnScope (N P : List Str) (sc : Scope) : Prop where
  kind : sc.kind = .function
  co : sc.isCoroutine = false
  gen : sc.isGenerator = false
  nd : N.Nodup
  pre : N.take P.length = P
  par : ∀ x ∈ P, sc.names.lookup x = some .local ∨ sc.names.lookup x = some .cell
  nofree : ∀ y ∈ sc.names, y.2 ≠ .free
theorem bindL_out {kindOf : Str → Option NameKind} {x : Str} : ∀ {binds : List (Str × Value)} {m : Str → Option Value}, (∀ v, (x, v) ∉ binds) → bindL kindOf binds m x = m x
  | [], _, _ => rfl
  | (n, v) :: r, m, h => by
    unfold bindL
    rw [bindL_out fun w hw => h w (List.mem_cons_of_mem _ hw)]
    split
    · have : x ≠ n := by rintro rfl; exact h v List.mem_cons_self
      simp [this]
    · rfl
theorem bindC_out {kindOf : Str → Option NameKind} {x : Str} : ∀ {binds : List (Str × Value)} {m : Str → Option Value}, (∀ v, (x, v) ∉ binds) → bindC kindOf binds m x = m x
  | [], _, _ => rfl
  | (n, v) :: r, m, h => by
    unfold bindC
    rw [bindC_out fun w hw => h w (List.mem_cons_of_mem _ hw)]
    split
    · rfl
    · have : x ≠ n := by rintro rfl; exact h v List.mem_cons_self
      simp [this]
theorem bindL_get {kindOf : Str → Option NameKind} {x : Str} {v : Value} : ∀ {P : List Str} {vs : List Value} {i : Nat} {m : Str → Option Value}, P.Nodup → P[i]? = some x → vs[i]? = some v → kindOf x = some .local →
    bindL kindOf (P.zip vs) m x = some v
  | [], _, _, _, _, h, _, _ => by simp at h
  | _ :: _, [], _, _, _, _, h, _ => by simp at h
  | p :: P, w :: vs, 0, m, nd, h1, h2, hk => by
    simp at h1 h2; subst h1; subst h2
    show bindL kindOf ((p, w) :: P.zip vs) m p = _
    unfold bindL
    rw [bindL_out fun v hv => (List.nodup_cons.mp nd).1 (List.of_mem_zip hv).1, if_pos hk]
    simp
  | p :: P, w :: vs, i + 1, m, nd, h1, h2, hk => by
    show bindL kindOf ((p, w) :: P.zip vs) m x = _
    unfold bindL
    exact bindL_get (i := i) (List.nodup_cons.mp nd).2 (by simpa using h1) (by simpa using h2) hk
theorem bindC_get {kindOf : Str → Option NameKind} {x : Str} {v : Value} : ∀ {P : List Str} {vs : List Value} {i : Nat} {m : Str → Option Value}, P.Nodup → P[i]? = some x → vs[i]? = some v → kindOf x ≠ some .local →
    bindC kindOf (P.zip vs) m x = some v
  | [], _, _, _, _, h, _, _ => by simp at h
  | _ :: _, [], _, _, _, _, h, _ => by simp at h
  | p :: P, w :: vs, 0, m, nd, h1, h2, hk => by
    simp at h1 h2; subst h1; subst h2
    show bindC kindOf ((p, w) :: P.zip vs) m p = _
    unfold bindC
    rw [bindC_out fun v hv => (List.nodup_cons.mp nd).1 (List.of_mem_zip hv).1, if_neg hk]
    simp
  | p :: P, w :: vs, i + 1, m, nd, h1, h2, hk => by
    show bindC kindOf ((p, w) :: P.zip vs) m x = _
    unfold bindC
    exact bindC_get (i := i) (List.nodup_cons.mp nd).2 (by simpa using h1) (by simpa using h2) hk
/-- the names' values at the entry -/
def start (N : List Str) (vs : List V) : St := vs.map some ++ List.replicate (N.length - vs.length) none
/-- the context of a def's body, at its entry; an exception leaves the frame, then lies as CX says -/
def cxOf (CX : CXT) (P : Program) (w : World) (K : PySem.W.Frag) (mg : Str → Option Value) (base : Heap) (N : List Str) (qual : Str) (scope : Scope) (f : Addr) (cd : Value) (A : Around) (outer : List Env) (s : Shared) (H : Hp) (E : XK) : Cx where
  prog := P
  w := w
  K := K
  mg := mg
  base := base
  A := A.deeper (envOfC qual scope s.heap.objs.size f cd)
  N := N
  s₀ := s
  H₀ := H
  env := envOfC qual scope s.heap.objs.size f cd
  outer := outer
  stack := envOfC qual scope s.heap.objs.size f cd :: outer
  ex := []
  calm := true
  fn := fun _ => true
  pn := []
  xe := fun e s' => wpAny (model P w) (A.deeper (envOfC qual scope s.heap.objs.size f cd)) (leaving (envOfC qual scope s.heap.objs.size f cd) e) (fun _ s'' => CX outer H s E e s'') (fun e' s'' => CX outer H s E e' s'') s'
theorem cell_has {sc : Scope} {n : Nat} {x : Str} (h : sc.names.lookup x = some .cell) : ∃ c, (cellsFrom n sc.names []).lookup x = some c := by
  have q := PySem.W.cellsFrom_some sc.names n [] (.inl h)
  exact Option.isSome_iff_exists.mp q
theorem inv_start {CX : CXT} {P : Program} {w : World} {K : PySem.W.Frag} {mg : Str → Option Value} {base : Heap} {N ps : List Str} {qual : Str} {scope : Scope} {f : Addr} {cd : Value} {A : Around} {outer : List Env} {s s1 : Shared} {H : Hp} {E : XK} {us : List Value} {vs : List V}
    (S : FnScope N ps scope) (hd : A.handled = none) (e0 : Env0 P w K mg base A outer s H) (hl : vs.length = ps.length) (r : Vals vs us)
    (x : InCallC s s.heap.objs.size (bindL (envOfC qual scope s.heap.objs.size f cd).kindOf (ps.zip us) fun _ => none) (cellsFrom (s.heap.objs.size + 1) scope.names []) (bindC (envOfC qual scope s.heap.objs.size f cd).kindOf (ps.zip us) fun _ => none) s1) :
    Inv (cxOf CX P w K mg base N qual scope f cd A outer s H E) [] (start N vs) H s1 := by
  have hpl : ps.length ≤ N.length := by have := congrArg List.length S.pre; rw [List.length_take] at this; omega
  obtain ⟨h1, tk, rfl, hk⟩ := x.done
  have noA : ∀ b : Addr, b ∉ (cxOf CX P w K mg base N qual scope f cd A outer s H E).ex := fun b z => absurd (show b ∈ ([] : List Addr) from z) (by simp)
  refine ⟨⟨e0.mod, S.kind, rfl, rfl, Nat.le_refl _, fun y z c h1 h2 => ?_, fun y hy => ?_, fun y c _ h => ?_, fun _ => hd, Around.frames_deeper e0.frames, .inr ⟨rfl, rfl⟩, fun b z => absurd z (noA b), e0.bs, e0.bsz, fun b _ _ => noA b, fun b z => absurd z (noA b), e0.funs, e0.frf⟩,
    rfl, e0.bare, Un.kept hk, ⟨_, x.toInCall.ns, fun i y v h1 h2 h3 => ?_⟩, fun y c h => ⟨_, x.cell y c h⟩, e0.hok.fresh (Nat.le_refl _), fun y c h => ?_, fun p hp => absurd (show p ∈ ([] : List (Addr × Obj)) from hp) (by simp), e0.hok.kept hk, ?_⟩
  · exact name_of_addr x.apart (PySem.mem_of_lookup h1) (PySem.mem_of_lookup h2)
  · have hy : scope.names.lookup y = some .cell ∨ scope.names.lookup y = some .free := hy
    rcases hy with hy | hy
    · exact cell_has hy
    · exact absurd rfl (S.nofree _ (PySem.mem_of_lookup hy))
  · exact Nat.le_of_lt (x.above y c (PySem.mem_of_lookup h))
  · have hi : i < vs.length := by
      unfold start at h2
      by_cases hi : i < vs.length
      · exact hi
      · rw [List.getElem?_append_right (by simpa using hi)] at h2
        rw [List.getElem?_replicate] at h2
        split at h2 <;> cases h2
    have ha : vs[i]? = some v := by
      unfold start at h2
      rw [List.getElem?_append_left (by simpa using hi), List.getElem?_map] at h2
      cases e : vs[i]? with
      | none => rw [e] at h2; cases h2
      | some a => rw [e] at h2; cases h2; rfl
    obtain ⟨u, hu, rv⟩ := r.get ha
    have hp : ps[i]? = some y := by
      rw [← S.pre, List.getElem?_take_of_lt (by omega)]; exact h1
    have ndP : ps.Nodup := by rw [← S.pre]; exact S.nd.sublist (List.take_sublist _ _)
    refine ⟨u, rv, ?_⟩
    rcases S.par y (List.mem_of_getElem? hp) with k | k
    · exact .inl ⟨k, bindL_get ndP hp hu k⟩
    · obtain ⟨c, e⟩ := cell_has (n := s.heap.objs.size + 1) k
      refine .inr ⟨.inl k, c, e, ?_⟩
      have q := x.cell y c e
      rw [bindC_get ndP hp hu (by show scope.names.lookup y ≠ _; rw [k]; decide)] at q
      exact q
  · exact e0.hok.fresh (Nat.le_of_lt (x.above y c (PySem.mem_of_lookup h)))
  · unfold start
    show _ = N.length
    rw [List.length_append, List.length_map, List.length_replicate]
    omega
/-- THE RULE: a def (or a method) of the text, by its body. The body's reading t is chosen for each entry; it is run at the parameters' values -/
theorem fn_of {CX : CXT} {P : Program} {w : World} {K : PySem.W.Frag} {mg : Str → Option Value} {base : Heap} {k : Nat} {f : Addr} {name qual : Str} {params : Arguments} {body : List Stmt} {scope : Scope} {dV kV doc pm cdv ct oc : Value} {an od : Option Addr}
    {osl : Array (Option Value)} {N ps : List Str} {sp : Sp} (lk : K.lookup f = some ⟨oc, od, .func (PySem.W.fnOf name qual params body scope dV kV doc pm an cdv ct), osl⟩) (hcd : PySem.W.codeIn K cdv qual = true) (S : FnScope N ps scope)
    (len : ∀ vs H Q E, sp vs H Q E → vs.length = ps.length)
    (hbody : ∀ (A : Around) (outer : List Env) (s : Shared) (H : Hp) (vs : List V) (Q : VK) (E : XK), Room k (A.deeper (envOfC qual scope s.heap.objs.size f cdv)) → sp vs H Q E →
      ∃ t, PSs (cxOf CX P w K mg base N qual scope f cdv A outer s H E) body t ∧ t { nx := fun _ H' => Q .non H', rt := Q } (start N vs) H) :
    FnOk P w K mg base CX (k + 1) f (PySem.W.fnOf name qual params body scope dV kV doc pm an cdv ct) ps sp := by
  refine ⟨len, fun A outer s H args us vs Q E hr e0 hb r hsp => ?_⟩
  have hl := len _ _ _ _ hsp
  have KX : K.In s.heap := e0.mod.kin.keeps fun b o e => (e0.bs b o e).1
  have lim : s.heap.NoLimit := e0.mod.nolimit.keeps fun b o e => (e0.bs b o e).1
  have hkind : ∀ y ∈ ps.zip us, scope.names.lookup y.1 = some .local ∨ (scope.names.lookup y.1 = some .cell ∧ ((cellsFrom (s.heap.objs.size + 1) scope.names []).lookup y.1).isSome = true) := fun ⟨n, v⟩ hy => by
    rcases S.par n (List.of_mem_zip hy).1 with q | q
    · exact .inl q
    · exact .inr ⟨q, PySem.W.cellsFrom_some _ _ _ (.inl q)⟩
  refine codeAny_call_function hr.depth (KX _ _ lk) rfl S.co S.gen rfl (PySem.W.codeRec_of KX hcd) (hb _ _ _ _ ?_)
  refine wpAny_newFunctionEnv_cells S.kind hkind fun env he s1 x => ?_
  subst he
  refine ⟨lim.keeps x.toInCall.keep, codeAny_func ?_⟩
  obtain ⟨t, ht, hq⟩ := hbody A outer s H vs Q E (hr.deeper _) hsp
  have I : Inv (cxOf CX P w K mg base N qual scope f cdv A outer s H E) [] (start N vs) H s1 := inv_start S hr.hd e0 hl r x
  refine wpAny_mono (ht [] s1 (start N vs) H _ I hq) (fun fl s' hs => ?_) fun e s' hs => hs
  have fin : ∀ {σ' : St} {H' : Hp} {v : V} {u : Value}, Inv (cxOf CX P w K mg base N qual scope f cdv A outer s H E) [] σ' H' s' → RelV v u → Q v H' → CE outer P w H s Q u s' :=
    fun {σ' H' v u} J rv q => ⟨v, H', J.os, J.bare, J.base, J.hok, rv, q⟩
  cases fl with
  | ret u =>
    obtain ⟨v, σ', H', J, rv, q⟩ := hs
    exact fin J rv q
  | next =>
    obtain ⟨σ', H', J, q⟩ := hs
    exact fin (v := V.non) (u := Value.none) J rfl q
  | brk =>
    obtain ⟨_, _, _, q⟩ := hs
    exact False.elim q
  | cont =>
    obtain ⟨_, _, _, q⟩ := hs
    exact False.elim q
end L2
namespace L2
open PySem PySem.Spec PyProof.Rows
section
variable {X : Cx} {x : Str} {p pos : Pos} {e : Expr} {es : List Expr} {t : TA} {id T : String} {r : List V → Hp → VK → Prop}
def tCB (r : List V → Hp → VK → Prop) (t : TA) : TE := fun σ H Q => t σ H fun vs H1 => r vs H1 Q
/-- f(e, ..), f a built-in function -/
theorem pe_callB (hc : CallR X (.builtin id) r) (hg : Gl X x) (hm : X.mg x = none) (hv : bootBuiltins x = some (.builtin id)) (ha : PA X (e :: es) t) (hn : x ≠ "__name__" := by decide) (hdb : (x == ("__debug__" : Str)) = false := by decide)
    (he : starEach (e :: es) X.env = (false, eval e X.env) :: starEach es X.env := by rfl) (hpl : (backTo pos (starEach es X.env)).any (·.1) = false := by rfl) : PE X (.Call (.Name x p) (e :: es) [] pos) (tCB r t) := by
  intro pins s σ H Q I h
  refine wpAny_Call_Name_kw (ld_blt I hg hm hv ?_ hn hdb)
  exact PyProof.Rows.callWith_builtin1 (thn (ha pos pins s σ H _ I h) fun us s1 ⟨vs, H1, I1, r1, q1⟩ => hc pins s1 σ H1 vs us Q I1 r1 q1) he hpl
/-- T(e, ..), T a built-in type -/
theorem pe_callTy (hc : CallR X (.type T) r) (hg : Gl X x) (hm : X.mg x = none) (hv : bootBuiltins x = some (.type T)) (ha : PA X (e :: es) t) (hn : x ≠ "__name__" := by decide) (hdb : (x == ("__debug__" : Str)) = false := by decide)
    (he : starEach (e :: es) X.env = (false, eval e X.env) :: starEach es X.env := by rfl) (hpl : (backTo pos (starEach es X.env)).any (·.1) = false := by rfl) : PE X (.Call (.Name x p) (e :: es) [] pos) (tCB r t) := by
  intro pins s σ H Q I h
  refine wpAny_Call_Name_kw (ld_blt I hg hm hv ?_ hn hdb)
  exact PyProof.Rows.callWith_type1 (thn (ha pos pins s σ H _ I h) fun us s1 ⟨vs, H1, I1, r1, q1⟩ => hc pins s1 σ H1 vs us Q I1 r1 q1) he hpl
end
end L2
namespace HT
open PySem PyProof.Rows
section
open PySem.SeqAt
open PySem.AutoSeq1 (wpAny_loadPart')
open PySem.MeetsSeq PySem.MeetsSeq2 PySem.MeetsSeq3
end
section
variable {prog : Program} {w : World} {A : Around} {E : Value → Shared → Prop} {s : Shared}
/-! ### t[a:b], not the whole -/
/-- a slice's bound as a place among n (d where it is left out) -/
def sIx (n d : Nat) : Option Int → Nat
  | none => d
  | some v => if v < 0 then (v + (n : Int)).toNat else min v.toNat n
theorem sIx_none (n d : Nat) : sIx n d none = d := rfl
theorem sIx_nat (n d k : Nat) : sIx n d (some (k : Int)) = min k n := by
  show (if (k : Int) < 0 then ((k : Int) + (n : Int)).toNat else min (k : Int).toNat n) = min k n
  rw [if_neg (by omega), Int.toNat_natCast]
end
end HT
namespace L2
open PySem PySem.Spec PyProof.Rows
/-! ### the parts of a slice -/
abbrev TO := St → Hp → (Option Int → Hp → Prop) → Prop
/-- a slice's part (left out, or an int) -/
def PO (X : Cx) (e : Option Expr) (t : TO) : Prop :=
  ∀ (pins : List (Addr × Obj)) (s : Shared) (σ : St) (H : Hp) (Q : Option Int → Hp → Prop), Inv X pins σ H s → t σ H Q →
    wpAny (model X.prog X.w) X.A (evalPart e X.env) (fun u s' => ∃ o H', Inv X pins σ H' s' ∧ IsPart u o ∧ Q o H') X.xe s
def tNoPart : TO := fun _ H Q => Q none H
def tPart (t : TE) : TO := fun σ H Q => t σ H fun x H1 => ∃ i, x = .int i ∧ Q (some i) H1
theorem intsAre_of {ns : List Int} : ∀ {us : List Value}, Vals (ns.map V.int) us → IntsAre us ns := by
  induction ns with
  | nil => intro us r; rw [List.map_nil] at r; cases r; exact .nil
  | cons n ns ih =>
    intro us r
    rw [List.map_cons] at r
    cases r with
    | cons r1 r2 =>
      obtain ⟨t, e⟩ := r1
      subst e
      exact .cons n t (ih r2)
section
variable {X : Cx} {e : Expr} {te : TE} {lo hi : Option Expr} {tl th : TO} {pos p2 : Pos}
theorem po_none : PO X none tNoPart := by
  intro pins s σ H Q I h
  rw [evalPart_none]
  exact wpAny_pure ⟨none, H, I, .none, h⟩
theorem po_some (h : PE X e te) : PO X (some e) (tPart te) := by
  intro pins s σ H Q I hw
  rw [evalPart_some]
  refine thnE (h pins s σ H _ I hw) fun u s1 x H1 I1 r1 q1 => ?_
  obtain ⟨i, rfl, q⟩ := q1
  obtain ⟨t, rfl⟩ := r1
  exact ⟨some i, H1, I1, .int i t, q⟩
/-- what a slice of a value is, by values: the slice object stands at sl -/
def SlR (X : Cx) (r : V → Option Int → Option Int → Hp → VK → Prop) : Prop :=
  ∀ (pins : List (Addr × Obj)) (s : Shared) (σ : St) (H : Hp) (x : V) (v vl vu : Value) (lo hi : Option Int) (sl : Addr) (Q : VK), Inv X pins σ H s → RelV x v → s.heap.IsSliceOf sl vl vu .none → IsPart vl lo → IsPart vu hi → r x lo hi H Q →
    ∃ T id, typeLookup (.type T) "__getitem__" = pure (some (.builtin id)) ∧ s.TypeIs v T ∧ wpAny (model X.prog X.w) X.A (getItem v (.ref sl)) (EP X pins σ Q) X.xe s
def tSl (r : V → Option Int → Option Int → Hp → VK → Prop) (te : TE) (tl th : TO) : TE := fun σ H Q => te σ H fun x H1 => tl σ H1 fun l H2 => th σ H2 fun u H3 => r x l u H3 Q
/-- a[lo:hi], any a -/
theorem pe_slice {r : V → Option Int → Option Int → Hp → VK → Prop} (hr : SlR X r) (he : PE X e te) (hl : PO X lo tl) (hu : PO X hi th) : PE X (.Subscript e (.Slice lo hi none p2) pos) (tSl r te tl th) := by
  intro pins s σ H Q I h
  refine Subscript_ (thnE (he pins s σ H _ I h) fun v s1 x H1 I1 r1 q1 => ?_)
  refine wpAny_Slice (thn (hl pins s1 σ H1 _ I1 q1) fun vl s2 ⟨l, H2, I2, pl, q2⟩ => thn (hu pins s2 σ H2 _ I2 q2) fun vu s3 ⟨u, H3, I3, pu, q3⟩ => ?_)
  rw [evalPart_none]
  refine wpAny_pure ?_
  have I4 : Inv X pins σ H3 { s3 with heap := s3.heap.push { cls := .type "slice", data := .fields #[vl, vu, .none] } } := I3.kept (t' := s3.toks) fun b ob q => Heap.get?_push_of_some _ q
  obtain ⟨T, id, hT, ht, hg⟩ := hr pins { s3 with heap := s3.heap.push { cls := .type "slice", data := .fields #[vl, vu, .none] } } σ H3 x v vl vu l u s3.heap.objs.size Q I4 r1 (Heap.IsSliceOf.new ..) pl pu q3
  show wpAny (model X.prog X.w) X.A (subscriptTail e (.Slice lo hi none p2) v (.ref s3.heap.objs.size)) (EP X pins σ Q) X.xe { s3 with heap := s3.heap.push { cls := .type "slice", data := .fields #[vl, vu, .none] } }
  exact tail_any (ops := [.ref s3.heap.objs.size, v]) ht hT hg (by with_unfolding_all rfl)
/-- the items of xs[lo:hi] -/
def cutV (xs : List V) (lo hi : Option Int) : List V := (xs.drop (HT.sIx xs.length 0 lo)).take (HT.sIx xs.length xs.length hi - HT.sIx xs.length 0 lo)
theorem cutV_length (xs : List V) (lo hi : Option Int) : (cutV xs lo hi).length ≤ xs.length := by
  unfold cutV
  rw [List.length_take, List.length_drop]
  omega
/-! ### t < u, t + u -/
end
end L2
namespace L2
open PySem PySem.Spec PyProof.Rows
/-! ### places -/
/-- the place that an index of any sign means -/
def ixN (n : Nat) (i : Int) : Option Nat := if 0 ≤ i then (if i < n then some i.toNat else none) else if -(n : Int) ≤ i then some (i + n).toNat else none
def atI {α : Type} (xs : List α) (i : Int) : Option α := (ixN xs.length i).bind fun j => xs[j]?
theorem ixN_seq {n : Nat} {i : Int} {j : Nat} (h : ixN n i = some j) : seqIndex? i n = some j ∧ j < n ∧ -(n : Int) ≤ i ∧ i < n := by
  unfold ixN at h
  by_cases h0 : 0 ≤ i
  · rw [if_pos h0] at h
    by_cases h1 : i < n
    · rw [if_pos h1] at h
      have e : i.toNat = j := Option.some.inj h
      exact ⟨by rw [seqIndex_of h0 h1, e], by omega, by omega, h1⟩
    · rw [if_neg h1] at h; cases h
  · rw [if_neg h0] at h
    by_cases h1 : -(n : Int) ≤ i
    · rw [if_pos h1] at h
      have e : (i + n).toNat = j := Option.some.inj h
      exact ⟨by rw [seqIndex_neg (by omega) h1, e], by omega, h1, by omega⟩
    · rw [if_neg h1] at h; cases h
theorem atI_get {α : Type} {xs : List α} {i : Int} {v : α} (h : atI xs i = some v) : ∃ j, seqIndex? i xs.length = some j ∧ xs[j]? = some v ∧ j < xs.length ∧ -(xs.length : Int) ≤ i ∧ i < xs.length := by
  unfold atI at h
  cases e : ixN xs.length i with
  | none => rw [e] at h; cases h
  | some j =>
    rw [e] at h
    obtain ⟨h1, h2, h3, h4⟩ := ixN_seq e
    exact ⟨j, h1, h, h2, h3, h4⟩
theorem atI_nat {α : Type} {xs : List α} {j : Nat} {v : α} (h : xs[j]? = some v) : atI xs (j : Int) = some v := by
  have hj : j < xs.length := (List.getElem?_eq_some_iff.mp h).1
  have e : ixN xs.length (j : Int) = some j := by
    unfold ixN
    rw [if_pos (by omega), if_pos (by omega)]; simp
  unfold atI; rw [e]; exact h
theorem atI_last {α : Type} (xs : List α) (v : α) : atI (xs ++ [v]) (-1) = some v := by
  have hl : (xs ++ [v]).length = xs.length + 1 := by simp
  have e : ixN (xs ++ [v]).length (-1) = some xs.length := by
    unfold ixN
    rw [hl, if_neg (by decide), if_pos (by omega)]
    congr 1
    omega
  unfold atI
  rw [e]
  show (xs ++ [v])[xs.length]? = some v
  simp
/-! ### what may be subscripted -/
/-- what stands as an index of a plain subscript -/
def PlainIx (b : Expr) : Prop := ∀ o i, subscripted b false o i = operate [o, i] (getItem o i)
/-- a subscript by values -/
def IxR (X : Cx) (r : R2) : Prop :=
  ∀ (value slice : Expr) (pins : List (Addr × Obj)) (s : Shared) (σ : St) (H : Hp) (x y : V) (v u : Value) (Q : VK), Inv X pins σ H s → RelV x v → RelV y u → r x y H Q →
    subscripted slice false v u = operate [v, u] (getItem v u) → wpAny (model X.prog X.w) X.A (subscriptTail value slice v u) (EP X pins σ Q) X.xe s
/-- a call of a builtin's method by values: the receiver, the arguments -/
def MtR (X : Cx) (id : String) (r : V → List V → Hp → VK → Prop) : Prop :=
  ∀ (pins : List (Addr × Obj)) (s : Shared) (σ : St) (H : Hp) (x : V) (xs : List V) (v : Value) (us : List Value) (Q : VK), Inv X pins σ H s → RelV x v → Vals xs us → r x xs H Q →
    wpAny (model X.prog X.w) X.A (call (.builtin id) (v :: us)) (EP X pins σ Q) X.xe s
section
variable {X : Cx} {a b : Expr} {ta tb : TE} {pos : Pos}
/-- a[b] -/
theorem pe_ix {r : R2} (hr : IxR X r) (ha : PE X a ta) (hb : PE X b tb) (hs : PlainIx b) : PE X (.Subscript a b pos) (tOp r ta tb) := by
  intro pins s σ H Q I h
  exact Subscript_ (binT ha hb I h fun v u s2 x y H2 I2 rx ry q => hr a b pins s2 σ H2 x y v u Q I2 rx ry q (hs _ _))
def rIxL (K : PySem.W.Frag) : R2 := fun x y H Q => ∃ p xs i v, x = .ref p ∧ y = .int i ∧ SqL K H p xs ∧ atI xs i = some v ∧ Q v H
def rIxT (K : PySem.W.Frag) : R2 := fun x y H Q => ∃ p xs i v, x = .ref p ∧ y = .int i ∧ SqT K H p xs ∧ atI xs i = some v ∧ Q v H
def rIxS : R2 := fun x y H Q => ∃ z i c, x = .str z ∧ y = .int i ∧ z.length ≤ sizeLine ∧ atI z.cps.toList i = some c ∧ Q (.str ⟨#[c]⟩) H
theorem ix_list : IxR X (rIxL X.K) := by
  intro value slice pins s σ H x y v u Q I rx ry h hs
  obtain ⟨p, xs, i, z, rfl, rfl, hq, he, q⟩ := h
  cases rx
  obtain ⟨t, rfl⟩ := ry
  obtain ⟨its, r, pl, hz⟩ := I.list hq
  obtain ⟨j, h1, h2, h3, h4, h5⟩ := atI_get he
  obtain ⟨w, ew, rw'⟩ := r.get h2
  have hl := r.length
  have hn := line63
  have fin : EP X pins σ Q w s := ⟨z, H, I, rw', q⟩
  by_cases h0 : 0 ≤ i
  · have hj : i.toNat = j := by
      rw [seqIndex_of h0 h5] at h1
      exact Option.some.inj h1
    exact item_listR pl.isList h0 (by omega) (by rw [hj]; simpa using ew) fin hs
  · have hj : (i + (its.toArray.size : Int)).toNat = j := by
      rw [seqIndex_neg (by omega) h4] at h1
      rw [List.size_toArray, ← hl]
      exact Option.some.inj h1
    exact subscriptTail_builtinR (x := w) pl.isList.typeIs slot_list_getitem.lookup
      (wpAny_getItem_list_neg (Q := fun r s' => r = w ∧ EP X pins σ Q r s') pl.isList (by omega) (by rw [List.size_toArray] <;> omega) (by omega) (by rw [hj]; simpa using ew) ⟨rfl, fin⟩) hs
theorem ix_tup : IxR X (rIxT X.K) := by
  intro value slice pins s σ H x y v u Q I rx ry h hs
  obtain ⟨p, xs, i, z, rfl, rfl, hq, he, q⟩ := h
  cases rx
  obtain ⟨t, rfl⟩ := ry
  obtain ⟨its, r, pl, hz⟩ := I.tuple hq
  obtain ⟨j, h1, h2, h3, h4, h5⟩ := atI_get he
  obtain ⟨w, ew, rw'⟩ := r.get h2
  have hl := r.length
  have hn := line63
  have fin : EP X pins σ Q w s := ⟨z, H, I, rw', q⟩
  exact subscriptTail_builtinR (x := w) pl.typeIs slot_tuple_getitem.lookup
    (getItem_tuple (j := j) (Q := fun r s' => r = w ∧ EP X pins σ Q r s') pl (by omega) (by omega) (by rw [List.size_toArray, ← hl]; exact h1) (by simpa using ew) ⟨rfl, fin⟩) hs
theorem ix_str : IxR X rIxS := by
  intro value slice pins s σ H x y v u Q I rx ry h hs
  obtain ⟨z, i, c, rfl, rfl, hz, he, q⟩ := h
  obtain ⟨t, rfl⟩ := rx
  obtain ⟨t', rfl⟩ := ry
  obtain ⟨j, h1, h2, h3, h4, h5⟩ := atI_get he
  have hl : z.cps.toList.length = z.length := by simp [Str.length]
  rw [hl] at h1 h4 h5
  have hn := line63
  exact tail_any (typeIs_str s z t) slot_str_getitem.lookup (getItem_str (c := c) (by
    have e1 : decide (i < -(2 ^ 63 : Int)) = false := decide_eq_false (by omega)
    have e2 : decide (i ≥ 2 ^ 63) = false := decide_eq_false (by omega)
    rw [e1, e2, Bool.or_false]) (by rw [h1]; simpa using h2) ⟨.str ⟨#[c]⟩, H, I.tok _, ⟨_, rfl⟩, q⟩) hs
/-! ### xs[i] = v, any sign -/
/-! ### slices -/
theorem slice_bounds (lo hi : Option Int) (n : Nat) : (sliceBounds lo hi none n).1 = ((HT.sIx n 0 lo : Nat) : Int) ∧ (sliceBounds lo hi none n).2.1 = ((HT.sIx n n hi : Nat) : Int) ∧ (sliceBounds lo hi none n).2.2 = 1 := by
  refine ⟨?_, ?_, rfl⟩
  · cases lo with
    | none => simp [sliceBounds, HT.sIx]
    | some i =>
      simp only [sliceBounds, HT.sIx, Option.getD_none, show (1 : Int) > 0 by decide, if_true]
      by_cases h : i < 0
      · simp only [h, if_true] <;> omega
      · simp only [h, if_false] <;> omega
  · cases hi with
    | none => simp [sliceBounds, HT.sIx]
    | some i =>
      simp only [sliceBounds, HT.sIx, Option.getD_none, show (1 : Int) > 0 by decide, if_true]
      by_cases h : i < 0
      · simp only [h, if_true] <;> omega
      · simp only [h, if_false] <;> omega
theorem slicePick_cut (its : List Value) (lo hi : Option Int) : slicePick its.toArray lo hi none = ((its.drop (HT.sIx its.length 0 lo)).take (HT.sIx its.length its.length hi - HT.sIx its.length 0 lo)).toArray := by
  obtain ⟨h1, h2, h3⟩ := slice_bounds lo hi its.toArray.size
  unfold slicePick
  rw [h1, h2, h3]
  simp only [sliceRange_one, pick_run, List.size_toArray] <;> rfl
/-- xs[lo:hi] of a list: a new list -/
def rSlL (K : PySem.W.Frag) : V → Option Int → Option Int → Hp → VK → Prop := fun x lo hi H Q => ∃ a xs, x = .ref a ∧ SqL K H a xs ∧ ∀ p, H p = none → Q (.ref p) (upd H p (.lst (cutV xs lo hi)))
theorem sl_list : SlR X (rSlL X.K) := by
  intro pins s σ H x v vl vu lo hi sl Q I rx hs pl pu h
  obtain ⟨a, xs, rfl, hx, q⟩ := h
  cases rx
  obtain ⟨its, r, ht, hz⟩ := I.list hx
  have hlen := r.length
  refine ⟨"list", _, slot_list_getitem.lookup, ht.isList.typeIs, ?_⟩
  refine wpAny_getItem_list_slice ht.isList hs pl pu .none (by simp) ?_ (by rw [List.size_toArray] <;> omega)
  rw [slicePick_cut, ← hlen]
  refine ⟨.ref s.heap.objs.size, _, I.laid (t' := s.toks) (o := .lst (cutV xs lo hi)) (fun b ob q => Heap.get?_push_of_some _ q) (Nat.le_refl _) ?_, rfl, q _ (I.hok.fresh (Nat.le_refl _))⟩
  exact ⟨Nat.le_trans (cutV_length xs lo hi) hz, _, 0, (r.drop (HT.sIx xs.length 0 lo)).take (HT.sIx xs.length xs.length hi - HT.sIx xs.length 0 lo), Heap.get?_push_size _ rfl⟩
/-! ### in, not in: flat items -/
/-! ### len, list(x), tuple(x) of any list or tuple that is read -/
theorem call_len_seq : CallR X (.builtin "len") (fun xs H Q => ∃ p ys, xs = [.ref p] ∧ (SqL X.K H p ys ∨ SqT X.K H p ys) ∧ Q (.int ys.length) H) := by
  intro pins s σ H xs us Q I r h
  obtain ⟨p, ys, rfl, hq, q⟩ := h
  obtain ⟨u, rfl, rx⟩ := vals1 r
  cases rx
  have hn := line63
  rcases hq with hq | hq
  · obtain ⟨its, r', pl, hz⟩ := I.list hq
    have hlen := r'.length
    exact Calls.call_len_list pl.isList (by simp only [List.size_toArray] <;> omega) ⟨.int ys.length, H, I.tok _, ⟨s.toks + 1, by rw [List.size_toArray, hlen]⟩, q⟩
  · obtain ⟨its, r', pl, hz⟩ := I.tuple hq
    have hlen := r'.length
    exact len_tuple pl (by simp only [List.size_toArray] <;> omega) ⟨.int ys.length, H, I.tok _, ⟨s.toks + 1, by rw [List.size_toArray, hlen]⟩, q⟩
theorem call_list_of : CallR X (.type "list") (fun xs H Q => ∃ p ys, xs = [.ref p] ∧ (SqL X.K H p ys ∨ SqT X.K H p ys) ∧ ∀ l, H l = none → Q (.ref l) (upd H l (.lst ys))) := by
  intro pins s σ H xs us Q I r h
  obtain ⟨p, ys, rfl, hq, q⟩ := h
  obtain ⟨u, rfl, rx⟩ := vals1 r
  cases rx
  have fin : ∀ (its : List Value), Vals ys its → ys.length ≤ sizeLine → ∀ (h' : Heap) (c' : Nat), (∀ b o', s.heap.get? b = some o' → h'.get? b = some o') →
      h'.get? s.heap.objs.size = some { cls := .type "list", dict := none, data := .seq its.toArray c', slots := #[] } → EP X pins σ Q (.ref s.heap.objs.size) { s with heap := h' } := fun its r' hz h' c' kp e =>
    ⟨.ref s.heap.objs.size, _, I.laid (t' := s.toks) kp (Nat.le_refl _) (show ObjOk X.prog X.w _ h' _ (.lst ys) from ⟨hz, its, c', r', e⟩), rfl, q _ (I.hok.fresh (Nat.le_refl _))⟩
  rcases hq with hq | hq
  · obtain ⟨its, r', pl, hz⟩ := I.list hq
    have hlen := r'.length
    obtain ⟨o, ho, hc, n, hd⟩ := pl.isList
    exact call_list_seq p (.inl rfl) ho hc hd (fun h' c' kp e => fin its r' hz h' c' kp e) (by simp only [List.size_toArray] <;> omega)
  · obtain ⟨its, r', pl, hz⟩ := I.tuple hq
    have hlen := r'.length
    obtain ⟨o, ho, hc, n, hd⟩ := pl
    exact call_list_seq p (.inr rfl) ho hc hd (fun h' c' kp e => fin its r' hz h' c' kp e) (by simp only [List.size_toArray] <;> omega)
/-! ### the call of a builtin's method: o.m(..) -/
/-- the value is of that builtin type -/
def tyV (K : PySem.W.Frag) (T : String) (x : V) (H : Hp) : Prop := match x with
  | .str _ => T = "str"
  | .int _ => T = "int"
  | .ref p => (T = "list" ∧ ∃ xs, SqL K H p xs) ∨ (T = "tuple" ∧ ∃ o, K.lookup p = some o ∧ o.cls = .type "tuple" ∧ o.dict = none) ∨
      (T = "dict" ∧ ((∃ kvs, H p = some (.dK kvs)) ∨ ∃ kvs, H p = some (.dT kvs))) ∨ (T = "set" ∧ ∃ S n, H p = some (.set S n))
  | _ => False
theorem tyV_is {pins : List (Addr × Obj)} {σ : St} {H : Hp} {s : Shared} {T : String} {x : V} {v : Value} (I : Inv X pins σ H s) (r : RelV x v) (ty : tyV X.K T x H) :
    s.TypeIs v T ∧ ∀ a, v = .ref a → ∃ ob, s.heap.get? a = some ob ∧ ob.dict = none := by
  cases x with
  | str z =>
    obtain ⟨t, rfl⟩ := r
    cases (show T = "str" from ty)
    exact ⟨typeIs_str s z t, fun _ e => nomatch e⟩
  | int i =>
    obtain ⟨t, rfl⟩ := r
    cases (show T = "int" from ty)
    exact ⟨typeIs_int s i t, fun _ e => nomatch e⟩
  | ref p =>
    cases r
    rcases ty with ⟨rfl, xs, hq⟩ | ⟨rfl, o, hk, hc, hd⟩ | ⟨rfl, hk⟩ | ⟨rfl, S, n, hk⟩
    · obtain ⟨its, _, pl, _⟩ := I.list hq
      refine ⟨pl.isList.typeIs, fun a e => ?_⟩
      cases e
      obtain ⟨o, n, e, c, hd, _⟩ := pl
      exact ⟨o, e, hd⟩
    · refine ⟨⟨o, I.kIn p o hk, hc⟩, fun a e => ?_⟩
      cases e
      exact ⟨o, I.kIn _ o hk, hd⟩
    · have z : ∃ o, s.heap.get? p = some o ∧ o.ExactDict := by
        rcases hk with ⟨kvs, hk⟩ | ⟨kvs, hk⟩
        · obtain ⟨_, _, _, _, o, _, _, e, ex, _⟩ := I.hok p _ hk
          exact ⟨o, e, ex⟩
        · obtain ⟨_, _, _, _, o, _, _, e, ex, _⟩ := I.hok p _ hk
          exact ⟨o, e, ex⟩
      obtain ⟨o, e, ex⟩ := z
      refine ⟨⟨o, e, ex.1⟩, fun a e2 => ?_⟩
      cases e2
      exact ⟨o, e, ex.2.1⟩
    · obtain ⟨o, _, _, _, e, ex, _⟩ := I.hok p _ hk
      refine ⟨⟨o, e, ex.1⟩, fun a e2 => ?_⟩
      cases e2
      exact ⟨o, e, ex.2.1⟩
  | _ => exact False.elim ty
def tBM (K : PySem.W.Frag) (T : String) (r : V → List V → Hp → VK → Prop) (to : TE) (t : TA) : TE := fun σ H Q => to σ H fun x H1 => tyV K T x H1 ∧ t σ H1 fun xs H2 => r x xs H2 Q
variable {o e : Expr} {es : List Expr} {to : TE} {t : TA} {name : Str} {apos cpos : Pos} {T id : String} {r : V → List V → Hp → VK → Prop}
theorem pe_bm (pa : PlainAttrs T) (slot : Slot T name id) (hty : typeOf (.builtin id) = pure (.type "method_descriptor")) (hm : MtR X id r) (ho : PE X o to) (ha : PA X (e :: es) t)
    (hbase : attributeBase o name X.env (eval o X.env) = eval o X.env := by rfl)
    (hfew : ((backTo cpos (starEach (e :: es) X.env)).all (fun x => !x.1) && (backToKw cpos (keywordEach [] X.env)).all (fun x => x.1.isSome)
      && decide ((e :: es).length + ([] : List Keyword).length + (if ([] : List Keyword).isEmpty then 0 else 1) < 30)) = true := by rfl)
    (hline : (apos.endLine == cpos.line) = true := by rfl) (hs : starEach (e :: es) X.env = (false, eval e X.env) :: starEach es X.env := by rfl) (hplain : (backTo cpos (starEach es X.env)).any (·.1) = false := by rfl) :
    PE X (.Call (.Attribute o name apos) (e :: es) [] cpos) (tBM X.K T r to t) := by
  intro pins s σ H Q I h
  refine wpAny_Call_method_late hbase hfew hline rfl (thn (ho pins s σ H _ I h) fun v s1 ⟨x, H1, I1, r1, ty, q1⟩ => ?_)
  obtain ⟨h1, h2⟩ := tyV_is I1 r1 ty
  refine ⟨T, id, pa, slot, hty, h1, h2, ?_⟩
  have hA := ha cpos pins s1 σ H1 _ I1 q1
  rw [hs] at hA ⊢
  refine Calls.callWith_builtin (by show (false || (backTo cpos (starEach es X.env)).any (·.1)) = false; rw [hplain] <;> rfl) (Calls.evalArgs_plain ?_)
  exact thn hA fun us s2 ⟨vs, H2, I2, r2, q2⟩ => hm pins s2 σ H2 x vs v us Q I2 r1 r2 q2
/- xs.append(e), list.index on a module's tuple .. are MtR facts of 06m -/
end
end L2
namespace L2
open PySem PySem.Spec PyProof.Rows
def MtM (X : Cx) (id : String) (r : V → List V → Hp → VK → Prop) : Prop :=
  ∀ (pins : List (Addr × Obj)) (s : Shared) (σ : St) (H : Hp) (x : V) (xs : List V) (v : Value) (us : List Value) (Q : VK), Inv X pins σ H s → RelV x v → Vals xs us → r x xs H Q →
    wpAny (model X.prog X.w) X.A (call (.builtin id) (v :: us)) (EP X pins σ Q) X.xe s
/-! ### lists of values -/
theorem Vals.one : ∀ {x : V} {us : List Value}, Vals [x] us → ∃ u, us = [u] ∧ RelV x u
  | _, _, .cons r .nil => ⟨_, rfl, r⟩
section
variable {X : Cx} {pins : List (Addr × Obj)} {σ : St} {H : Hp} {s : Shared} {l b : Addr} {xs ys zs : List V}
/-! ### the two steps: a tracked list is rewritten, a new list is laid -/
theorem Inv.lset {its its' : List Value} {n : Nat} {f : Array Value → Array Value} {t' : Nat} (I : Inv X pins σ H s) (hH : H l = some (.lst xs))
    (e : s.heap.get? l = some { cls := .type "list", data := .seq its.toArray n }) (hf : f its.toArray = its'.toArray) (hv : Vals ys its') (hz : ys.length ≤ sizeLine) :
    Inv X pins σ (upd H l (.lst ys)) { s with heap := s.heap.update l (Obj.mapSeq f), toks := t' } := by
  have q := PySem.IsL.update e f
  rw [hf] at q
  refine I.write (x := l) (e := l) (by rw [hH]; exact trivial) (.inl rfl) (fun b' u hb hu => (Heap.get?_update_other s.heap (Obj.mapSeq f) (Ne.symm hb)).trans hu) ⟨_, q⟩ ?_
  exact ⟨hz, its', _, hv, q⟩
theorem Inv.lnew {its : List Value} {t' : Nat} (I : Inv X pins σ H s) (hv : Vals ys its) (hz : ys.length ≤ sizeLine) :
    Inv X pins σ (upd H s.heap.objs.size (.lst ys)) { s with heap := s.heap.push { cls := .type "list", data := .seq its.toArray }, toks := t' } :=
  I.laid (fun _ _ q => Heap.get?_push_of_some _ q) (Nat.le_refl _) ⟨hz, its, 0, hv, Heap.get?_push_size _ rfl⟩
theorem Inv.fresh (I : Inv X pins σ H s) : H s.heap.objs.size = none := I.hok.fresh (Nat.le_refl _)
theorem Inv.lstM (I : Inv X pins σ H s) (hH : H l = some (.lst xs)) : xs.length ≤ sizeLine ∧ ∃ (its : List Value) (n : Nat), Vals xs its ∧ xs.length = its.length ∧ s.heap.get? l = some { cls := .type "list", data := .seq its.toArray n } := by
  obtain ⟨z, its, n, r, e⟩ := I.hok l _ hH
  exact ⟨z, its, n, r, r.length, e⟩
theorem notLongL {n : Nat} (h : n ≤ sizeLine) : Builtin.List.listTooLong n = false := by
  unfold Builtin.List.listTooLong
  exact decide_eq_false (by omega)
end
section
variable {X : Cx}
/-! ### methods -/
def rAppend : V → List V → Hp → VK → Prop := fun x vs H Q => ∃ l xs y, x = .ref l ∧ vs = [y] ∧ H l = some (.lst xs) ∧ xs.length < sizeLine ∧ Q .non (upd H l (.lst (xs ++ [y])))
theorem mt_append : MtM X "list.append" rAppend := by
  intro pins s σ H x vs v us Q I rx rv h
  obtain ⟨l, xs, y, rfl, rfl, hH, hz, q⟩ := h
  cases rx
  obtain ⟨u, rfl, ru⟩ := rv.one
  obtain ⟨z, its, n, r, hl, e⟩ := I.lstM hH
  refine call_meets F.slot_list_append ⟨_, e, rfl⟩ F.entry_list_append (F.args_list_append_2 _ _) (PySem.list_append l its.toArray n u (by rw [List.size_toArray]; omega)) ⟨e, ?_⟩
  refine ⟨.non, _, I.lset (its' := its ++ [u]) hH e (by simp) (r.append (.cons ru .nil)) ?_, rfl, q⟩
  rw [List.length_append, List.length_singleton]
  omega
def rExtend : V → List V → Hp → VK → Prop := fun x vs H Q => ∃ l b xs zs, x = .ref l ∧ vs = [.ref b] ∧ H l = some (.lst xs) ∧ H b = some (.lst zs) ∧ xs.length + zs.length ≤ sizeLine ∧ Q .non (upd H l (.lst (xs ++ zs)))
theorem mt_extend : MtM X "list.extend" rExtend := by
  intro pins s σ H x vs v us Q I rx rv h
  obtain ⟨l, b, xs, zs, rfl, rfl, hH, hB, hz, q⟩ := h
  cases rx
  obtain ⟨u, rfl, ru⟩ := rv.one
  cases ru
  obtain ⟨z, its, n, r, hl, e⟩ := I.lstM hH
  obtain ⟨z2, its2, n2, r2, hl2, e2⟩ := I.lstM hB
  have hsz : its.toArray.size + its2.toArray.size ≤ sizeLine := by rw [List.size_toArray, List.size_toArray]; omega
  have hlong : ¬ (!its.toArray.isEmpty && Builtin.List.listTooLong (its.toArray.size + its2.toArray.size)) = true := by
    rw [notLongL hsz, Bool.and_false]
    exact Bool.false_ne_true
  refine call_meets F.slot_list_extend ⟨_, e, rfl⟩ F.entry_list_extend (F.args_list_extend_2 _ _)
    (AutoSeq1.list_extend_list_list_0 l its.toArray n b its2.toArray n2 hlong (by rw [List.size_toArray]; omega) (by omega)) ⟨e, e2, ?_⟩
  refine ⟨.non, _, I.lset (its' := its ++ its2) hH e (by simp) (r.append r2) ?_, rfl, q⟩
  rw [List.length_append]
  omega
/-! ### list + list, list += list, list * int -/
def rCat : R2 := fun x y H Q => ∃ l b xs zs, x = .ref l ∧ y = .ref b ∧ H l = some (.lst xs) ∧ H b = some (.lst zs) ∧ xs.length + zs.length ≤ sizeLine ∧ ∀ p, H p = none → Q (.ref p) (upd H p (.lst (xs ++ zs)))
theorem op_cat : OpR X (binaryOp .Add) rCat := by
  intro pins s σ H x y v u Q I rx ry h
  obtain ⟨l, b, xs, zs, rfl, rfl, hH, hB, hz, q⟩ := h
  cases rx
  cases ry
  obtain ⟨z, its, n, r, hl, e⟩ := I.lstM hH
  obtain ⟨z2, its2, n2, r2, hl2, e2⟩ := I.lstM hB
  refine PySem.P.add_list e e2 ?_ (by rw [List.size_toArray, List.size_toArray]; omega)
  have ea : its.toArray ++ its2.toArray = (its ++ its2).toArray := by simp
  rw [ea]
  exact ⟨.ref _, _, I.lnew (t' := s.toks) (r.append r2) (by rw [List.length_append]; omega), rfl, q _ I.fresh⟩
/-! ### del xs[i] -/
end
/-! ### xs[a:b] = ys -/
end L2
namespace L2
open PySem PySem.Spec PyProof.Rows
/-! ### lists of pairs as tables -/
section
variable {κ : Type} [DecidableEq κ]
def valV (kvs : List (κ × V)) (k : κ) : Option V := (kvs.find? fun kv => decide (kv.1 = k)).map (·.2)
/-- in its place, or at the end -/
def putK (kvs : List (κ × V)) (k : κ) (v : V) : List (κ × V) :=
  if (kvs.any fun kv => decide (kv.1 = k)) = true then kvs.map (fun kv => if kv.1 = k then (kv.1, v) else kv) else kvs ++ [(k, v)]
theorem valV_pos {p : κ × V} {r : List (κ × V)} {k : κ} (e : p.1 = k) : valV (p :: r) k = some p.2 := by simp [valV, List.find?_cons, e]
theorem valV_neg {p : κ × V} {r : List (κ × V)} {k : κ} (e : ¬ p.1 = k) : valV (p :: r) k = valV r k := by simp [valV, List.find?_cons, e]
theorem valV_any (k : κ) : ∀ kvs : List (κ × V), (kvs.any fun kv => decide (kv.1 = k)) = (valV kvs k).isSome
  | [] => rfl
  | p :: r => by
    rw [List.any_cons]
    by_cases e : p.1 = k
    · simp only [valV_pos e, decide_eq_true e, Bool.true_or, Option.isSome_some]
    · rw [valV_neg e, decide_eq_false e, Bool.false_or]; exact valV_any k r
theorem length_putK (kvs : List (κ × V)) (k : κ) (v : V) : (putK kvs k v).length ≤ kvs.length + 1 := by
  unfold putK
  split
  · rw [List.length_map]; omega
  · rw [List.length_append, List.length_cons, List.length_nil]; omega
theorem RelO.isSome_eq {o : Option V} {u : Option Value} (r : RelO o u) : o.isSome = u.isSome := by
  cases o with
  | none => cases u with
    | none => rfl
    | some _ => exact (show False from r).elim
  | some _ => cases u with
    | none => exact (show False from r).elim
    | some _ => rfl
/-- raw tables of the same keys -/
theorem KV.val {kvs : List (κ × V)} {vs : List (κ × Value)} (r : KV kvs vs) (k : κ) : RelO (valV kvs k) (valueAt vs k) := by
  unfold KV at r
  induction r with
  | nil => exact True.intro
  | @cons p q ps qs h t ih =>
    obtain ⟨h1, h2⟩ := h
    by_cases e : p.1 = k
    · have e' : q.1 = k := h1.symm.trans e
      have b : valueAt (q :: qs) k = some q.2 := by simp [valueAt, List.find?_cons, e']
      rw [valV_pos e, b]; exact h2
    · have e' : ¬ q.1 = k := fun z => e (h1.trans z)
      have b : valueAt (q :: qs) k = valueAt qs k := by simp [valueAt, List.find?_cons, e']
      rw [valV_neg e, b]; exact ih
theorem KV.any {kvs : List (κ × V)} {vs : List (κ × Value)} (r : KV kvs vs) (k : κ) : (kvs.any fun kv => decide (kv.1 = k)) = vs.any fun kv => decide (kv.1 = k) := by
  unfold KV at r
  induction r with
  | nil => rfl
  | cons h t ih => rw [List.any_cons, List.any_cons, ih, h.1]
theorem KV.repl {kvs : List (κ × V)} {vs : List (κ × Value)} (r : KV kvs vs) (k : κ) {y : V} {u : Value} (ry : RelV y u) :
    KV (kvs.map fun kv => if kv.1 = k then (kv.1, y) else kv) (vs.map fun kv => if kv.1 = k then (kv.1, u) else kv) := by
  unfold KV at r ⊢
  induction r with
  | nil => exact .nil
  | @cons p q ps qs h t ih =>
    rw [List.map_cons, List.map_cons]
    refine .cons ?_ ih
    obtain ⟨h1, h2⟩ := h
    by_cases e : p.1 = k
    · rw [if_pos e, if_pos (h1.symm.trans e)]; exact ⟨h1, ry⟩
    · rw [if_neg e, if_neg (fun z => e (h1.trans z))]; exact ⟨h1, h2⟩
theorem KV.put {kvs : List (κ × V)} {vs : List (κ × Value)} (r : KV kvs vs) (k : κ) {y : V} {u : Value} (ry : RelV y u) : KV (putK kvs k y) (stored vs k u) := by
  unfold putK stored
  rw [r.any k]
  by_cases e : (vs.any fun kv => decide (kv.1 = k)) = true
  · rw [if_pos e, if_pos e]; exact r.repl k ry
  · rw [if_neg e, if_neg e]; exact Paired.snoc r ⟨rfl, ry⟩
theorem KV.keys {kvs : List (κ × V)} {vs : List (κ × Value)} (r : KV kvs vs) : kvs.map (·.1) = vs.map (·.1) := by
  unfold KV at r
  induction r with
  | nil => rfl
  | cons h t ih => rw [List.map_cons, List.map_cons, ih, h.1]
theorem KV.length {kvs : List (κ × V)} {vs : List (κ × Value)} (r : KV kvs vs) : kvs.length = vs.length := Paired.length r
end
/-! ### a tracked dict, its keys ints and texts or tuples of these -/
theorem kV_is {P : Program} {w : World} {k : Key} {u : Value} (r : RelV (kV k) u) : (mixKind P w).is k u = true := by
  cases k with
  | inl i => obtain ⟨t, e⟩ := (show ∃ t, u = Value.int i t from r); subst e; exact mixKind_int P w i t
  | inr x => obtain ⟨t, e⟩ := (show ∃ t, u = Value.str x t from r); subst e; exact mixKind_str P w x t
theorem items_are {P : Program} {w : World} : ∀ {ks : List Key} {us : List Value}, Vals (ks.map kV) us → ItemsAre (mixKind P w) ks us
  | [], _, r => by rw [List.map_nil] at r; cases r; exact .nil
  | k :: ks, _, r => by
    rw [List.map_cons] at r
    cases r with
    | cons h t => exact .cons (kV_is h) (items_are t)
/-- raw entries of a dict with tuple keys -/
abbrev KT (H : Hp) : List (List Key × V) → List (List Key × Addr × Value) → Prop := Paired fun p q => p.1 = q.1 ∧ H q.2.1 = some (.tup (p.1.map kV)) ∧ RelV p.2 q.2.2
theorem KT.val {H : Hp} {kvs : List (List Key × V)} {xs : List (List Key × Addr × Value)} (r : KT H kvs xs) (k : List Key) : RelO (valV kvs k) ((atKey xs k).map (·.2)) := by
  induction r with
  | nil => exact True.intro
  | @cons p q ps qs h t ih =>
    obtain ⟨h1, _, h2⟩ := h
    by_cases e : p.1 = k
    · have e' : q.1 = k := h1.symm.trans e
      have b : atKey (q :: qs) k = some q.2 := by simp [atKey, List.find?_cons, e']
      rw [valV_pos e, b]; exact h2
    · have e' : ¬ q.1 = k := fun z => e (h1.trans z)
      have b : atKey (q :: qs) k = atKey qs k := by simp [atKey, List.find?_cons, e']
      rw [valV_neg e, b]; exact ih
theorem KT.repl {H : Hp} {kvs : List (List Key × V)} {xs : List (List Key × Addr × Value)} (r : KT H kvs xs) (k : List Key) {y : V} {u : Value} (ry : RelV y u) :
    KT H (kvs.map fun kv => if kv.1 = k then (kv.1, y) else kv) (xs.map (putAt k u)) := by
  induction r with
  | nil => exact .nil
  | @cons p q ps qs h t ih =>
    rw [List.map_cons, List.map_cons]
    refine .cons ?_ ih
    obtain ⟨h1, h2, h3⟩ := h
    unfold putAt
    by_cases e : p.1 = k
    · rw [if_pos e, if_pos (h1.symm.trans e)]; exact ⟨h1, h2, ry⟩
    · rw [if_neg e, if_neg (fun z => e (h1.trans z))]; exact ⟨h1, h2, h3⟩
theorem KT.put {H : Hp} {kvs : List (List Key × V)} {xs : List (List Key × Addr × Value)} (r : KT H kvs xs) (k : List Key) {b : Addr} {y : V} {u : Value} (hb : H b = some (.tup (k.map kV))) (ry : RelV y u) :
    KT H (putK kvs k y) (storedH xs k b u) := by
  have e : (kvs.any fun kv => decide (kv.1 = k)) = (atKey xs k).isSome := by
    rw [valV_any, (r.val k).isSome_eq, Option.isSome_map]
  unfold putK storedH
  rw [e]
  by_cases q : (atKey xs k).isSome = true
  · rw [if_pos q, if_pos q]; exact r.repl k ry
  · rw [if_neg q, if_neg q]; exact Paired.snoc r ⟨rfl, hb, ry⟩
theorem KT.keeps {H H' : Hp} {kvs : List (List Key × V)} {xs : List (List Key × Addr × Value)} (r : KT H kvs xs) (ht : ∀ b ys, H b = some (.tup ys) → H' b = some (.tup ys)) : KT H' kvs xs :=
  Paired.mapP r fun _ _ z => ⟨z.1, ht _ _ z.2.1, z.2.2⟩
section
variable {P : Program} {w : World} {H : Hp} {h : Heap} {a : Addr}
theorem rd_of {u : HO} (ok : HOk P w H h) (e : Rd H a u) : ObjOk P w H h a u := e.ok ok
theorem dk_rd {kvs : List (Key × V)} (ok : HOk P w H h) (e : Rd H a (.dK kvs)) : kvs.length ≤ sizeLine ∧ (a == sysModules) = false ∧ ∃ vs, KV kvs vs ∧ h.DictOf (mixKind P w) a vs :=
  show ObjOk P w H h a (.dK kvs) from rd_of ok e
theorem dk_of {kvs : List (Key × V)} (ok : HOk P w H h) (e : H a = some (.dK kvs)) : kvs.length ≤ sizeLine ∧ (a == sysModules) = false ∧ ∃ vs, KV kvs vs ∧ h.DictOf (mixKind P w) a vs := dk_rd ok (.inl e)
/-- a tracked tuple of ints and texts is a key -/
theorem key_of {ks : List Key} (ok : HOk P w H h) (e : H a = some (.tup (ks.map kV))) : (tupleKind (mixKind P w)).is h ks a := by
  obtain ⟨_, its, r, o, h1, h2, n, h3⟩ := (show ObjOk P w H h a (.tup (ks.map kV)) from ok a _ e)
  exact ⟨o, its.toArray, n, h1, h2, h3, by simpa using items_are r⟩
theorem dt_rd {kvs : List (List Key × V)} (ok : HOk P w H h) (e : Rd H a (.dT kvs)) : kvs.length ≤ sizeLine ∧ (a == sysModules) = false ∧
    ∃ xs, KT H kvs xs ∧ h.DictOfH (tupleKind (mixKind P w)) a xs := by
  obtain ⟨z, y, xs, r, o, es, ep, h1, h2, h3, h4, h5⟩ := (show ObjOk P w H h a (.dT kvs) from rd_of ok e)
  refine ⟨z, y, xs, r, o, es, ep, h1, h2, h3, h4, fun x hx => ?_, h5⟩
  have all : ∀ {l : List (List Key × V)} {m : List (List Key × Addr × Value)}, KT H l m → ∀ x ∈ m, (tupleKind (mixKind P w)).is h x.1 x.2.1 := by
    intro l m q
    induction q with
    | nil => intro x hx; exact nomatch hx
    | @cons p q ps qs hq t ih =>
      intro x hx
      rcases List.mem_cons.mp hx with e | hx
      · subst e
        exact key_of ok (by rw [← hq.1]; exact hq.2.1)
      · exact ih x hx
  exact all r x hx
theorem dt_of {kvs : List (List Key × V)} (ok : HOk P w H h) (e : H a = some (.dT kvs)) : kvs.length ≤ sizeLine ∧ (a == sysModules) = false ∧
    ∃ xs, KT H kvs xs ∧ h.DictOfH (tupleKind (mixKind P w)) a xs := dt_rd ok (.inl e)
end
/-- what the dict at a holds at the key y -/
def DGet (H : Hp) (a : Addr) (y : V) (r : Option V) : Prop :=
  (∃ kvs k, Rd H a (.dK kvs) ∧ y = kV k ∧ r = valV kvs k) ∨ ∃ kvs k b, Rd H a (.dT kvs) ∧ y = .ref b ∧ H b = some (.tup (k.map kV)) ∧ r = valV kvs k
/-- the heap behind a[y] = v -/
def DPut (H : Hp) (a : Addr) (y v : V) (H' : Hp) : Prop :=
  (∃ kvs k, H a = some (.dK kvs) ∧ y = kV k ∧ kvs.length < sizeLine ∧ H' = upd H a (.dK (putK kvs k v))) ∨
  ∃ kvs k b, H a = some (.dT kvs) ∧ y = .ref b ∧ H b = some (.tup (k.map kV)) ∧ kvs.length < sizeLine ∧ H' = upd H a (.dT (putK kvs k v))
theorem DGet.k {H : Hp} {a : Addr} {kvs : List (Key × V)} {k : Key} (e : H a = some (.dK kvs)) : DGet H a (kV k) (valV kvs k) := .inl ⟨kvs, k, .inl e, rfl, rfl⟩
theorem DPut.k {H : Hp} {a : Addr} {kvs : List (Key × V)} {k : Key} {v : V} (e : H a = some (.dK kvs)) (hl : kvs.length < sizeLine) : DPut H a (kV k) v (upd H a (.dK (putK kvs k v))) := .inl ⟨kvs, k, e, rfl, hl, rfl⟩
section
variable {X : Cx} {pins : List (Addr × Obj)} {σ : St} {H : Hp} {s : Shared} {a : Addr} {y v : V} {u r : Value} {o : Option V} {A : Around} {E : Value → Shared → Prop}
theorem Inv.big (I : Inv X pins σ H s) : sysModules < s.heap.objs.size := by
  have h : mainGlobals < s.heap.objs.size := (I.mod.glob.keeps I.bk).lt
  exact Nat.lt_trans (by decide) h
/-- d[y], there -/
theorem d_getItem {Q : Value → Shared → Prop} (hu : A.units + 1 < cLine) (I : Inv X pins σ H s) (g : DGet H a y (some v)) (ry : RelV y u) (h : ∀ w' s', Inv X pins σ H s' → RelV v w' → Q w' s') :
    wpAny (model X.prog X.w) A (getItem (.ref a) u) Q E s := by
  rcases g with ⟨kvs, k, e, ey, l⟩ | ⟨kvs, k, b, e, ey, eb, l⟩
  · subst ey
    obtain ⟨z, hd, vs, rel, dd⟩ := dk_rd I.hok e
    obtain ⟨w', hw, rw'⟩ := RelO.some_of (v := v) (o := valueAt vs k) (by rw [l]; exact rel.val k)
    exact wpAny_getItem_of (kV_is ry) dd.mapOf hw (h w' _ (I.tok _) rw')
  · subst ey
    cases (show u = Value.ref b from ry)
    obtain ⟨z, hd, xs, rel, dd⟩ := dt_rd I.hok e
    obtain ⟨w', hw, rw'⟩ := RelO.some_of (v := v) (o := (atKey xs k).map (·.2)) (by rw [l]; exact rel.val k)
    obtain ⟨p, hp, hp2⟩ := Option.map_eq_some_iff.mp hw
    refine wpAny_getItem_heap (tupleKind_room_in1 hu) (key_of I.hok eb) dd hp ?_
    rw [hp2]
    exact h w' _ (I.tok _) rw'
/-- a dict's object is replaced -/
theorem d_write {h' : Heap} {t' : Nat} {ob : HO} (I : Inv X pins σ H s) (mu : Mut (H a)) (hs : Heap.SameBut a s.heap h') (he : ∃ q, h'.get? a = some q) (new : ObjOk X.prog X.w (upd H a ob) h' a ob) :
    Inv X pins σ (upd H a ob) { s with heap := h', toks := t' } :=
  I.write (x := a) (e := a) mu (.inl rfl) (fun b q hb z => (hs.2 b hb).trans z) he new
theorem dk_new {P : Program} {w : World} {H' : Hp} {h' : Heap} {kvs : List (Key × V)} {vs : List (Key × Value)} (z : kvs.length ≤ sizeLine) (hd : (a == sysModules) = false) (rel : KV kvs vs) (dd : h'.DictOf (mixKind P w) a vs) :
    ObjOk P w H' h' a (.dK kvs) := ⟨z, hd, vs, rel, dd⟩
/-- d[y] = v -/
theorem d_setItem {H' : Hp} {Q : Unit → Shared → Prop} (hu : A.units + 1 < cLine) (I : Inv X pins σ H s) (g : DPut H a y v H') (ry : RelV y u) (rv : RelV v r) (h : ∀ s', Inv X pins σ H' s' → Q () s') :
    wpAny (model X.prog X.w) A (setItem (.ref a) u r) Q E s := by
  rcases g with ⟨kvs, k, e, ey, l, eH⟩ | ⟨kvs, k, b, e, ey, eb, l, eH⟩
  · subst ey eH
    obtain ⟨z, hd, vs, rel, dd⟩ := dk_of I.hok e
    have hz : vs.length ≤ sizeLine := by rw [← rel.length]; exact z
    have hl : (putK kvs k v).length ≤ sizeLine := by have := length_putK kvs k v; omega
    refine wpAny_setItem_pairs (hsz := hz) (kV_is ry) dd fun h' dd' hs => h _ ?_
    have he : ∃ q, h'.get? a = some q := let ⟨q, _, _, hq, _⟩ := dd'; ⟨q, hq⟩
    exact d_write I (by rw [e]; exact True.intro) hs he (dk_new hl hd (rel.put k rv) dd')
  · subst ey eH
    cases (show u = Value.ref b from ry)
    obtain ⟨z, hd, xs, rel, dd⟩ := dt_of I.hok e
    have hz : xs.length ≤ sizeLine := by rw [← Paired.length rel]; exact z
    have hl : (putK kvs k v).length ≤ sizeLine := by have := length_putK kvs k v; omega
    refine wpAny_setItem_heap (hsz := hz) (tupleKind_room_in1 hu) (key_of I.hok eb) dd fun h' dd' hs => h _ ?_
    obtain ⟨q, es, ep, hq, h2, h3, h4, _, h5⟩ := dd'
    refine d_write I (by rw [e]; exact True.intro) hs ⟨q, hq⟩ ⟨hl, hd, _, (rel.put k eb rv).keeps fun c ys ec => ?_, q, es, ep, hq, h2, h3, h4, h5⟩
    rw [upd_ne (ne_of ec e (fun z => nomatch z))]
    exact ec
end
/-! ### readings and rules -/
/-- the element of a subscription, not a slice -/
def NoSl (i : Expr) : Prop := ∀ ov iv, subscripted i false ov iv = operate [ov, iv] (getItem ov iv)
theorem subD_of {prog : Program} {w : World} {A : Around} {E : Value → Shared → Prop} {s : Shared} {env : Env} {value slice : Expr} {pos : Pos} {T id : String} {Q : Value → Shared → Prop}
    (hl : typeLookup (.type T) "__getitem__" = pure (some (.builtin id))) (hs : NoSl slice)
    (h : wpAny (model prog w) A (eval value env) (fun o s₁ => wpAny (model prog w) A (eval slice env) (fun i s₂ => s₂.TypeIs o T ∧ wpAny (model prog w) A (getItem o i) Q E s₂) E s₁) E s) :
    wpAny (model prog w) A (eval (.Subscript value slice pos) env) Q E s := by
  refine Subscript_ (wpAny_mono h (fun o s₁ h₁ => wpAny_mono h₁ (fun i s₂ h₂ => ?_) fun _ _ x => x) fun _ _ x => x)
  obtain ⟨hT, h₂⟩ := h₂
  unfold subscriptTail
  refine wpAny_bind ?_
  rw [getitemInPython_of_ne hT.not_modules]
  refine wpAny_bind (wpAny_specialOf hT hl ?_)
  have fin : wpAny (model prog w) A (subscripted slice false o i) (fun r s₃ => wpAny (model prog w) A (letTemporaryGo value o r >>= fun _ => pure r) Q E s₃) E s₂ := by
    rw [hs o i]
    exact wpAny_operating (wpAny_mono h₂ (fun r s₃ h₃ => wpAny_bind (wpAny_letTemporaryGo (wpAny_pure h₃))) fun _ _ x => x)
  first
    | exact wpAny_pure (wpAny_bind fin)
    | exact wpAny_bind (wpAny_pure (wpAny_bind fin))
    | exact wpAny_bind fin
theorem dict_typeIs {X : Cx} {pins : List (Addr × Obj)} {σ : St} {H : Hp} {s : Shared} {a : Addr} {y : V} {o : Option V} (I : Inv X pins σ H s) (g : DGet H a y o) : s.TypeIs (.ref a) "dict" := by
  rcases g with ⟨kvs, k, e, _, _⟩ | ⟨kvs, k, b, e, _, _, _⟩
  · obtain ⟨_, _, vs, _, dd⟩ := dk_rd I.hok e
    exact dd.typeIs
  · obtain ⟨_, _, xs, _, dd⟩ := dt_rd I.hok e
    exact dd.typeIs
/-- d[y] -/
def tDGet (td ty : TE) : TE := fun σ H Q => td σ H fun x H1 => ty σ H1 fun y H2 => ∃ a v, x = .ref a ∧ DGet H2 a y (some v) ∧ Q v H2
/-- d[y] = v -/
def sDPut (td ty tv : TE) : TS := fun D σ H => tv σ H fun v H1 => td σ H1 fun x H2 => ty σ H2 fun y H3 => ∃ a H4, x = .ref a ∧ DPut H3 a y v H4 ∧ D.nx σ H4
section
variable {X : Cx} {o i e value : Expr} {pos pos' tpos : Pos} {td ty tv : TE}
theorem pe_dget (hu : X.A.units + 1 < cLine) (ho : PE X o td) (hi : PE X i ty) (hs : NoSl i) : PE X (.Subscript o i pos) (tDGet td ty) := by
  intro pins s σ H Q I h
  refine subD_of PySem.F.slot_dict_getitem.lookup hs (thnE (ho pins s σ H _ I h) fun u s1 x H1 I1 rx q1 => thn (hi pins s1 σ H1 _ I1 q1) fun iv s2 ⟨y, H2, I2, ry, a, v, ex, g, q2⟩ => ?_)
  subst ex
  obtain rfl : u = Value.ref a := rx
  exact ⟨dict_typeIs I2 g, d_getItem hu I2 g ry fun w' s3 I3 rw' => ⟨v, H2, I3, rw', q2⟩⟩
theorem ps_dput (hu : X.A.units + 1 < cLine) (ho : PE X o td) (hi : PE X i ty) (hv : PE X value tv) (hs : swapsWith value (some (.Subscript o i pos')) pos.line X.env = pure false) :
    PS X (.Assign [.Subscript o i pos'] value pos) (sDPut td ty tv) := by
  intro pins s σ H D I h
  refine wpAny_Assign_Subscript (thnE (hv pins s σ H _ I h) fun r s1 v H1 I1 rv q1 => thnE (ho pins s1 σ H1 _ I1 q1) fun u s2 x H2 I2 rx q2 => thn (hi pins s2 σ H2 _ I2 q2) fun iv s3 ⟨y, H3, I3, ry, a, H4, ex, g, q3⟩ => ?_) hs
  subst ex
  obtain rfl : u = Value.ref a := rx
  exact d_setItem hu I3 g ry rv fun s4 I4 => ⟨σ, H4, I4, q3⟩
end
/-! ### displays -/
theorem dk_empty {P : Program} {w : World} {H : Hp} (h : Heap) (hb : sysModules < h.objs.size) : ObjOk P w H (h.push { cls := .type "dict", data := .dict #[] }) h.objs.size (.dK []) :=
  ⟨Nat.zero_le _, beq_eq_false_iff_ne.mpr (Ne.symm (Nat.ne_of_lt hb)), [], .nil, Heap.DictOf.new h⟩
/-- {}, to be a dict of the kind that is wanted -/
def tDNewK : TE := fun _ H Q => ∀ p, H p = none → Q (.ref p) (upd H p (.dK []))
section
variable {X : Cx} {pos : Pos}
theorem pe_dnewK : PE X (.Dict [] [] pos) tDNewK := fun pins s σ H Q I h =>
  wpAny_Dict_empty ⟨.ref s.heap.objs.size, _, I.laid (a := s.heap.objs.size) (o := .dK []) (t' := s.toks) (fun _ _ q => Heap.get?_push_of_some _ q) (Nat.le_refl _) (dk_empty s.heap I.big), rfl, h _ (I.hok.fresh (Nat.le_refl _))⟩
end
/-! ### methods -/
/-! ### dict(d): a copy -/
end L2
namespace Att
open PySem PySem.W PySem.Calls PyProof.Rows
/-! ### the script -/
theorem ints_of_wellAll {P : Params} {h : Heap} : ∀ (ns : List Int) (vs : List Value), WellAll P h vs (ns.map WData.int) → IntsAre vs ns := by
  intro ns
  induction ns with
  | nil =>
    intro vs w
    rw [List.map_nil] at w
    cases w
    exact .nil
  | cons n ns ih =>
    intro vs w
    rw [List.map_cons] at w
    cases w with
    | cons a b =>
      cases a
      exact .cons _ _ (ih _ b)
theorem script_of {l : OpenLaw} {n : Nat} (hn : l.most = some n) {P : Params} {h : Heap} {args : List WData} {vals : List Value}
    (hpre : l.row.toRowW.claim.pre args = true) (hwl : WellAll P h vals args) :
    ∃ a vs ns, vals = [Value.ref a] ∧ args = [WData.list (ns.map WData.int)] ∧ h.get? a = some { cls := .type "list", data := .seq vs.toArray } ∧ IntsAre vs ns ∧ ns.length ≤ n := by
  have hsh : WShape.hasAll [] args [.list .int] = true := (pre_splitW hpre).1
  have hc : l.pre.holds [] { args := args } = true := (pre_splitW hpre).2
  obtain ⟨d, r, rfl, h1, h2⟩ := hasAllW_cons hsh
  obtain rfl := hasAllW_nil h2
  obtain ⟨xs, rfl, h3⟩ := hasW_list h1
  obtain ⟨ns, rfl⟩ := items_int h3
  have hlen : ns.length ≤ n := by
    unfold OpenLaw.pre at hc
    have h4 : (WTm.not (.lt (.lit (.int (n : Int))) (.len (.arg 0)))).holds [] { args := [.list (ns.map .int)] } = true := by
      have h4 := (holds_andW hc).1
      rw [hn] at h4
      exact h4
    have h5 := condW_of h4 (w_not (w_lt w_lit (w_len_list (w_arg rfl))))
    rw [List.length_map] at h5
    refine Nat.le_of_not_lt fun q => ?_
    have q' : (n : Int) < ((ns.length : Nat) : Int) := by omega
    first
      | (rw [decide_eq_true q'] at h5; exact absurd h5 (by decide))
      | (simp at h5; omega)
  cases hwl with
  | cons w1 w2 =>
    cases w2
    cases w1 with
    | list ho hall => exact ⟨_, _, ns, rfl, rfl, ho, ints_of_wellAll ns _ hall, hlen⟩
theorem post_true (l : OpenLaw) (args : List WData) : l.row.toRowW.claim.post args (.bool true) args = true :=
  postW_of (r := l.row.toRowW) (X := (true == true))
    (show WShape.has [] (.bool true) .bool = true by first | rfl | decide | simp [WShape.has, WShape.arms, WShape.armsAll])
    (show (WTm.eq .res (.lit (.bool true))).value [] { args := args, res := some (.bool true), after := args } = some (.bool (true == true)) from w_eq_bool (w_res rfl) w_lit) rfl
/-! ### the attachment: holds_open's last premise (the goal 'hc' behind k_head) from a wpAny of the law's body -/
/-- the same from a codeAny of the CALL (for a layer whose function contracts speak of calls) -/
theorem attach_call {l : OpenLaw} {n : Nat} {q : Program} {loose : List Str} {XP : (Str → Option Value) → Heap → Prop} {YP : World → Heap → Prop} {d : DefRec}
    (hn : l.most = some n) (hdf : d.params.defaults = [])
    (call : ∀ (w : World) (s₀ s₁ : Shared) (mg mb : Str → Option Value) (fa : Addr) (o : Obj) (pm cd doc : Value) (a : Addr) (vs : List Value) (ns : List Int),
      Ground q loose [] XP w s₀ mg mb s₁.heap → YP w s₁.heap →
      s₁.heap.get? fa = some o → o.data = .func (docDef d.name d.params d.body d.scope pm cd doc) → s₁.heap.CodeRec cd d.name → mg d.name = some (.ref fa) →
      s₁.heap.get? a = some { cls := .type "list", data := .seq vs.toArray } → IntsAre vs ns → ns.length ≤ n → s₁.gens = #[] →
      codeAny (model l.prog w) callerA (.call (.ref fa) ⟨[.ref a], []⟩) (fun r s' => r = .ok (.ret (.bool true)) ∧ OldK s₁.heap s'.heap ∧ s'.os = s₁.os ∧ AllBare s'.gens) s₁) :
    WalkO q loose XP YP l.row.toRowW d [] (fun f vs => PySem.call f vs) := by
  intro w s₀ s₁ mg mb G Y fa o pm cd doc dV kV ho hd hcd hD hmg hg args vals as hpre hlay hrd hwl hlo
  obtain rfl : dV = .none := Dflts.none hD hdf
  obtain rfl : kV = .none := Dflts.noKw hD
  obtain ⟨a, vs, ns, rfl, rfl, hobj, hints, hlen⟩ := script_of hn hpre hwl
  refine enter_call (codeAny_mono (call w s₀ s₁ mg mb fa o pm cd doc a vs ns G Y ho (fd_plain hd) hcd hmg hobj hints hlen hg) fun r s' hq => ?_)
  obtain ⟨rfl, h2, h3, h4⟩ := hq
  exact ⟨.inl ⟨.bool true, .bool true, [], rfl, fun _ => rfl, .bool true, post_true l _, fun _ => ⟨List.Pairwise.nil, fun _ hm => (nomatch hm)⟩⟩, h2, h3, h4⟩
/-! ### rules over ANY heap (no ledger) from facts about the written part K: the library's own take a ledger (News) for what they write -/
end Att
namespace L2
open PySem PySem.Spec PyProof.Rows
theorem vals_ints : ∀ {vs : List Value} {ns : List Int}, IntsAre vs ns → Vals (ns.map V.int) vs
  | _, _, .nil => .nil
  | _, _, .cons n t h => .cons ⟨t, rfl⟩ (vals_ints h)
/-- nothing is tracked but the script, known to the object (or it is an object of the module) -/
def Only (H : Hp) : Prop := ∀ b, H b = none ∨ ∃ o xs, H b = some (.frz o (.lst xs))
/-- THE HEAD: the law's promise, at the heap behind the top. F, the promise of the law's def, may use that base is part of the heap (so K.In base, base.Ns mainGlobals mg stand in Mod) -/
theorem law_call {P : Program} {w : World} {K : PySem.W.Frag} {mg mb : Str → Option Value} {CX : CXT} {k : Nat} {fa a : Addr} {fd : FuncData} {x : Str} {sp : Sp} {s₁ : Shared} {vs : List Value} {ns : List Int}
    (KX : K.In s₁.heap) (hns : s₁.heap.Ns mainGlobals mg) (hb : s₁.heap.Ns builtinsNs mb) (hbb : ∀ x : Str, x ≠ "__name__" → mb x = bootBuiltins x) (hlim : s₁.heap.NoLimit) (hg : s₁.gens = #[])
    (ha : s₁.heap.get? a = some { cls := .type "list", data := .seq vs.toArray }) (hi : IntsAre vs ns) (hl : ns.length ≤ sizeLine) (hr : Room k callerA)
    (F : ∀ base : Heap, K.In base → base.Ns mainGlobals mg → FnOk P w K mg base CX k fa fd [x] sp) (hbind : ∀ (s : Shared) (u : Value), BindsTo s fd ⟨[u], []⟩ [(x, u)])
    (hsp : ∀ H : Hp, Only H → SqL K H a (ns.map V.int) → sp [.ref a] H (fun v _ => v = .bl true) fun _ _ _ => False)
    (hCX : ∀ H e s', CX [] H s₁ (fun _ _ _ => False) e s' → False) :
    codeAny (model P w) callerA (.call (.ref fa) ⟨[.ref a], []⟩) (fun r s' => r = .ok (.ret (.bool true)) ∧ OldK s₁.heap s'.heap ∧ s'.os = s₁.os ∧ AllBare s'.gens) s₁ := by
  have rv := vals_ints hi
  have lenV := hi.length
  -- from an abstract heap in which nothing but the script may be tracked
  have core : ∀ H : Hp, Only H → SqL K H a (ns.map V.int) → HOk P w H s₁.heap → (∀ b, H b ≠ none → b = a) → (H a ≠ none → K.lookup a = none) →
      codeAny (model P w) callerA (.call (.ref fa) ⟨[.ref a], []⟩) (fun r s' => r = .ok (.ret (.bool true)) ∧ OldK s₁.heap s'.heap ∧ s'.os = s₁.os ∧ AllBare s'.gens) s₁ := by
    intro H hO hS hok hA hK
    have base_of : ∀ {b : Addr} {o : Obj}, s₁.heap.get? b = some o → H b = none → (hidT s₁.heap H).get? b = some o := fun e n => hidT_get e n
    have noA : ∀ {b : Addr} {o : Obj} {es : Array DictEntry} {ep : Nat}, s₁.heap.get? b = some o → o.data = .dict es ep → H b = none := fun {b o es ep} e d => by
      cases q : H b with
      | none => rfl
      | some u =>
        have e' : b = a := hA b (by rw [q]; simp)
        subst e'
        rw [ha] at e; cases e
        have d' : Data.seq vs.toArray _ = Data.dict es ep := d
        cases d'
    have nsK : ∀ {b : Addr} {m : Str → Option Value}, s₁.heap.Ns b m → (hidT s₁.heap H).Ns b m := fun {b m} ⟨o, es, ep, e, d, r⟩ => ⟨o, es, ep, base_of e (noA e d), d, r⟩
    have hKb : K.In (hidT s₁.heap H) := fun b o e => base_of (KX b o e) (by
      cases q : H b with
      | none => rfl
      | some u =>
        have e' : b = a := hA b (by rw [q]; simp)
        subst e'
        rw [hK (by rw [q]; simp)] at e; cases e)
    have hM : Mod K mg (hidT s₁.heap H) := ⟨hKb, nsK hns, ⟨mb, nsK hb, hbb⟩, let ⟨mc, h1, h2⟩ := hlim; ⟨mc, nsK h1, h2⟩⟩
    have e0 : Env0 P w K mg (hidT s₁.heap H) callerA [] s₁ H := ⟨rfl, hM, fun b o e => of_hidT e, Nat.le_of_eq (hidT_size _ _), trivial, fun b hb => absurd (show b ∈ ([] : List Addr) from hb) (by simp), hok, .of_eq hg⟩
    refine codeAny_mono ((F _ hKb (nsK hns)).run callerA [] s₁ H ⟨[.ref a], []⟩ [.ref a] [.ref a] _ _ hr e0 (hbind s₁ (.ref a)) (.cons rfl .nil) (hsp H hO hS)) fun r s' h => ?_
    cases r with
    | error e => exact (hCX H e s' h).elim
    | ok fl =>
      cases fl with
      | next => exact False.elim h
      | brk => exact False.elim h
      | cont => exact False.elim h
      | ret u =>
        obtain ⟨v, H', os, bare, un, hok', r', q⟩ := h
        have q' : v = .bl true := q
        subst q'
        obtain rfl : u = Value.bool true := r'
        refine ⟨rfl, OldK.of_keep fun b o e => ?_, os, bare⟩
        cases q : H b with
        | none => exact un.keep b o e q (by intro z; exact absurd (show b ∈ ([] : List Addr) from z) (by simp)) (by simp)
        | some u =>
          rcases hO b with z | ⟨ob, xs, z⟩
          · rw [q] at z; cases z
          · have z2 := un.frzs b ob _ z
            obtain ⟨e1, _⟩ := hok b _ z
            obtain ⟨e2, _⟩ := hok' b _ z2
            rw [e] at e1; cases e1
            exact e2
  cases hk : K.lookup a with
  | some o =>
    -- the script is one of the module's own objects
    have e := KX a o hk
    rw [ha] at e
    cases e
    refine core (fun _ => none) (fun _ => .inl rfl) (.inr ⟨_, vs.toArray, _, hk, rfl, rfl, rfl, by rw [List.size_toArray, lenV]; exact hl, by simpa using rv⟩) (fun b u z => by have z' : (none : Option HO) = some u := z; cases z') (fun b z => absurd rfl z) fun z => absurd rfl z
  | none =>
    refine core (fun b => if b = a then some (.frz { cls := .type "list", data := .seq vs.toArray } (.lst (ns.map V.int))) else none) (fun b => ?_) (.inl (.inr ⟨{ cls := .type "list", data := .seq vs.toArray }, if_pos rfl⟩)) (fun b u z => ?_) (fun b z => ?_) fun _ => hk
    · by_cases hb : b = a
      · exact .inr ⟨_, _, if_pos hb⟩
      · exact .inl (if_neg hb)
    · by_cases hb : b = a
      · have z' := (if_pos hb).symm.trans z
        cases z'
        subst hb
        exact ⟨ha, by rw [List.length_map]; exact hl, vs, _, rv, ha⟩
      · have z' := (if_neg hb).symm.trans z
        cases z'
    · by_cases hb : b = a
      · exact hb
      · exact absurd (if_neg hb) z
end L2
namespace L2
open PySem PySem.Spec PyProof.Rows
/-- the goal that k_head leaves (case hc), from the law's promise. F gives the function object fd (K's own) once, then the promise over every base -/
theorem walk_of {l : PySem.W.OpenLaw} {n k : Nat} {q : Program} {loose : List Str} {XP : (Str → Option Value) → Heap → Prop} {YP : World → Heap → Prop} {d : DefRec} {K : Params → PySem.W.Frag} {CX : World → CXT} {sp : World → Sp} {x : Str}
    (hn : l.most = some n) (hn2 : n ≤ sizeLine) (hdf : d.params.defaults = []) (hr : Room k callerA)
    (hY : ∀ (w : World) (h : Heap), YP w h → (K w.params).In h)
    (F : ∀ (w : World) (mg : Str → Option Value) (fa : Addr) (h : Heap), (K w.params).In h → h.Ns mainGlobals mg → mg d.name = some (.ref fa) →
      ∃ fd : FuncData, (∀ (s : Shared) (u : Value), BindsTo s fd ⟨[u], []⟩ [(x, u)]) ∧
        ∀ base : Heap, (K w.params).In base → base.Ns mainGlobals mg → FnOk l.prog w (K w.params) mg base (CX w) k fa fd [x] (sp w))
    (hsp : ∀ (w : World) (H : Hp) (a : Addr) (ns : List Int), ns.length ≤ n → Only H → SqL (K w.params) H a (ns.map V.int) → sp w [.ref a] H (fun v _ => v = .bl true) fun _ _ _ => False)
    (hCX : ∀ (w : World) (H : Hp) (s : Shared) (e : Value) (s' : Shared), CX w [] H s (fun _ _ _ => False) e s' → False) :
    PySem.W.WalkO q loose XP YP l.row.toRowW d [] (fun f vs => PySem.call f vs) := by
  refine Att.attach_call hn hdf fun w s₀ s₁ mg mb fa o pm cd doc a vs ns G Y ho hd hcd hmg hobj hints hlen hg => ?_
  have KX := hY w _ Y
  obtain ⟨fd, hb, hF⟩ := F w mg fa _ KX G.T.g hmg
  exact law_call KX G.T.g G.T.b G.T.builtins G.T.nolimit hg hobj hints (Nat.le_trans hlen hn2) hr hF hb (fun H hO hS => hsp w H a ns hlen hO hS) fun H e s' => hCX w H s₁ e s'
end L2
/- THE LAST THEOREM (shape; LID, My.* are yours):
   My.Adr: a structure of the addresses that your layer names (classes, functions); My.Txt K t: a structure (Prop) of the equations over K;
   My.txt_mk : {K} {implicit addresses ..} (e1 : nsIn K mainGlobals "law" = some (some (.ref f))) (e2 : K.lookup f = some ⟨oc, od, .func (fnOf "law" "law" params body scope dV kV doc pm an cdv ct), sl⟩) (e3 : codeIn K cdv "law" = true) .. : ∃ t, My.Txt K t
set_option maxRecDepth 100000 in
set_option maxHeartbeats 0 in
theorem PySem.Challenge.cw_LID_holds : PySem.Challenge.rw_LID.Holds := by
  w_on; o_law; k_head; (case hw => w_witness2)
  k_fill
  refine L2.walk_of (l := PySem.Challenge.rw_LID) (n := 63) (k := 40) (x := "script") (CX := fun w => ..) (sp := fun _ => My.sp_law) rfl (by decide) rfl ⟨rfl, by decide, by decide⟩ (fun w h Y => PySem.W.kIn_of Y) ?F ?S ?C
  case F =>
    intro w mg fa h KX G hmg
    have T : ∃ t, My.Txt (L2.KOf KX) t := by
      dsimp only [L2.KOf]                          -- K must stand as «<heap const> w.params» for k_is
      refine' My.txt_mk ?e1 ?e2 ?e3 ..
      (case e1 => PySem.W.k_is)                    -- in the order: a name -> its address -> its object -> its parts
      (case e2 => PySem.W.k_is)
      ..
    obtain ⟨t, T⟩ := T
    have e0 := hmg.symm.trans (PySem.W.mg_of KX G T.law)
    cases e0                                       -- fa is the law's own address
    exact ⟨_, fun s u => .of_eq rfl, fun base kb nb => My.law_fn T kb nb⟩     -- if «.of_eq rfl» comes too early: refine' ⟨_, ?b, fun base kb nb => My.law_fn T kb nb⟩; exact fun s u => .of_eq rfl
  case S => exact fun w H a ns hl hO hS => ..
  case C => exact ..
(the tactic k_is has no namespace: write k_is) -/
/-! SHORT WORDS over the layer: a def of the text, its body, what a loop and a test want. -/
namespace L2
open PySem PySem.Spec PyProof.Rows
/-! ### the text by places -/
def defArgs (s : Stmt) : Arguments := match s with
  | .FunctionDef _ a _ _ _ _ _ _ _ _ => a
  | _ => { posonlyargs := [], args := [], vararg := none, kwonlyargs := [], kw_defaults := [], kwarg := none, defaults := [] }
def defBody (s : Stmt) : List Stmt := match s with
  | .FunctionDef _ _ b _ _ _ _ _ _ _ => b
  | _ => []
def defScope (s : Stmt) : Scope := match s with
  | .FunctionDef _ _ _ _ _ _ sc _ _ _ => sc
  | _ => { kind := .function, names := [], isGenerator := false, isCoroutine := false }
/-! ### no exception leaves a def -/
abbrev CX0 : CXT := fun _ _ _ _ _ _ => False
abbrev E0 : XK := fun _ _ _ => False
theorem pass0 {X : Cx} : Passes CX0 X E0 := fun _ _ _ _ _ _ _ h => h.elim
/-! ### a def (or method) of the text as it stands behind the top -/
structure Fun (K : PySem.W.Frag) (x qual : Str) (st : Stmt) (f : Addr) (fd : FuncData) : Prop where
  ex : ∃ (oc : Value) (od : Option Addr) (kV doc pm : Value) (an : Option Addr) (cdv ct : Value) (osl : Array (Option Value)),
    fd = PySem.W.fnOf x qual (defArgs st) (defBody st) (defScope st) .none kV doc pm an cdv ct ∧ K.lookup f = some ⟨oc, od, .func fd, osl⟩ ∧ PySem.W.codeIn K cdv qual = true
  kp : PySem.W.keepIn K (.ref f) = true
section
variable {P : Program} {w : World} {K : PySem.W.Frag} {mg : Str → Option Value} {base : Heap}
/-- THE RULE for a def: its body as a term of rules, and the reading of that term -/
theorem Fun.ok {x qual : Str} {st : Stmt} {f : Addr} {fd : FuncData} {N ps : List Str} {k : Nat} {sp : Sp} (F : Fun K x qual st f fd) (S : FnScope N ps (defScope st)) (len : ∀ vs H Q E, sp vs H Q E → vs.length = ps.length)
    (hbody : ∀ (cdv : Value) (A : Around) (outer : List Env) (s : Shared) (H : Hp) (vs : List V) (Q : VK) (E : XK), Room k (A.deeper (envOfC qual (defScope st) s.heap.objs.size f cdv)) → sp vs H Q E →
      ∃ t, PSs (cxOf CX0 P w K mg base N qual (defScope st) f cdv A outer s H E).nox (defBody st) t ∧ t { nx := fun _ H' => Q .non H', rt := Q } (start N vs) H) : FnOk P w K mg base CX0 (k + 1) f fd ps sp := by
  obtain ⟨oc, od, kV, doc, pm, an, cdv, ct, osl, rfl, lk, hcd⟩ := F.ex
  refine fn_of lk hcd S len fun A outer s H vs Q E hr hsp => ?_
  obtain ⟨t, h, q⟩ := hbody cdv A outer s H vs Q E hr hsp
  exact ⟨t, h.nox, q⟩
/-- how its arguments bind (no defaults): h is «fun _ _ _ _ _ _ us hl => match us, hl with | [_, _], _ => rfl», one _ a parameter -/
theorem Fun.binds {x qual : Str} {st : Stmt} {f : Addr} {fd : FuncData} {ps : List Str} (F : Fun K x qual st f fd)
    (h : ∀ (kV doc pm : Value) (an : Option Addr) (cdv ct : Value) (us : List Value), us.length = ps.length → bindArgs (PySem.W.fnOf x qual (defArgs st) (defBody st) (defScope st) .none kV doc pm an cdv ct) ⟨us, []⟩ = pure (ps.zip us)) : Binds K fd ps [] := by
  obtain ⟨oc, od, kV, doc, pm, an, cdv, ct, osl, rfl, lk, hcd⟩ := F.ex
  exact .all (h kV doc pm an cdv ct)
theorem fun_mk {x qual : Str} {st : Stmt} {f : Addr} {oc : Value} {od an : Option Addr} {osl : Array (Option Value)} {kV doc pm cdv ct : Value} (l : K.lookup f = some ⟨oc, od, .func (PySem.W.fnOf x qual (defArgs st) (defBody st) (defScope st) .none kV doc pm an cdv ct), osl⟩)
    (c : PySem.W.codeIn K cdv qual = true) (k : PySem.W.keepIn K (.ref f) = true) : Fun K x qual st f (PySem.W.fnOf x qual (defArgs st) (defBody st) (defScope st) .none kV doc pm an cdv ct) := ⟨⟨oc, od, kV, doc, pm, an, cdv, ct, osl, rfl, l, c⟩, k⟩
end
theorem hu_of {A : Around} {k : Nat} (hr : Room k A) : A.units + 1 < cLine := Nat.lt_of_le_of_lt (Nat.add_le_add_left (by decide : 1 ≤ 64) _) hr.units
/-! ### expressions in short: the name that stands in the i-th slot -/
section
variable {X : Cx}
theorem pv (i : Nat) {x : Str} {pos : Pos} (hN : X.N[i]? = some x := by rfl) (hv : Vis X.env.scope x := by first | exact Or.inl rfl | exact Or.inr (Or.inl rfl) | exact Or.inr (Or.inr rfl)) (hd : (x == ("__debug__" : Str)) = false := by decide)
    (hcd : (x == ("__classdict__" : Str)) = false := by decide) : PE X (.Name x pos) (tVar i) := pe_var hN hv hd hcd
end
/-! ### tests -/
theorem iteF {A B : Prop} (h : B) : if false = true then A else B := by
  rw [if_neg Bool.false_ne_true]
  exact h
theorem iteT {A B : Prop} (h : A) : if true = true then A else B := by
  rw [if_pos rfl]
  exact h
theorem ite2 {c A B : Prop} [Decidable c] (h1 : c → A) (h2 : ¬ c → B) : if c then A else B := by
  by_cases h : c
  · rw [if_pos h]
    exact h1 h
  · rw [if_neg h]
    exact h2 h
theorem iteNS {c A B : Prop} [Decidable c] (hc : c) (h : B) : if (!decide c) = true then A else B := by
  rw [decide_eq_true hc]
  exact iteF h
/-! ### heaps -/
/-- all that was tracked is as it was -/
def Same (H H' : Hp) : Prop := ∀ b o, H b = some o → H' b = some o
theorem Same.trans {H H1 H2 : Hp} (a : Same H H1) (b : Same H1 H2) : Same H H2 := fun c o h => b c o (a c o h)
theorem Same.free {H H' : Hp} (e : Same H H') {l : Addr} (h : H' l = Option.none) : H l = Option.none := by
  cases q : H l with
  | none => rfl
  | some o =>
    rw [e l o q] at h
    cases h
theorem Same.seq {K : PySem.W.Frag} {H H' : Hp} {a : Addr} {xs : List V} (e : Same H H') (h : SqL K H a xs) : SqL K H' a xs := by
  rcases h with (h | ⟨o, h⟩) | h
  · exact .inl (.inl (e _ _ h))
  · exact .inl (.inr ⟨o, e _ _ h⟩)
  · exact .inr h
/-! ### a dict's pairs: keys that differ -/
end L2


set_option autoImplicit false
set_option maxRecDepth 100000
set_option linter.all false
namespace TS
open PySem PyProof.Rows
/-- sorted(xs), xs a list of ints -/
theorem sorted_of_ints {prog : Program} {w : World} {A : Around} {E : Value → Shared → Prop} {s : Shared} {l : Addr} {vs : List Value} {ns : List Int} {Q : Value → Shared → Prop} (hl : s.heap.IsList l vs.toArray) (hz : vs.length ≤ sizeLine) (h64 : vs.length < 64) (hI : IntsAre vs ns)
    (h : ∀ (out : Array Value) (ns' : List Int), IntsAre out.toList ns' → ns'.Perm ns → ns'.Pairwise (· ≤ ·) → Q (.ref (s.heap.objs.size + 1)) { s with heap := sortedAll s.heap vs out }) :
    wpAny (model prog w) A (call (.builtin "sorted") [.ref l]) Q E s := sorted_ints hl hI h64 h
end TS






set_option autoImplicit false
set_option maxRecDepth 100000
set_option linter.all false
set_option Elab.async false
namespace L2
open PySem PySem.Spec PyProof.Rows
/-! ### products of large ints -/
section
variable {X : Cx}
/-! ### int(text), text * int -/
theorem call_int_text : CallR X (.type "int") (fun xs H Q => ∃ x n, xs = [.str x] ∧ PySem.intText? x = some n ∧ x.length ≤ 640 ∧ Q (.int n) H) := by
  intro pins s σ H xs us Q I r h
  obtain ⟨x, n, rfl, hn, hl, q⟩ := h
  obtain ⟨u, rfl, ru⟩ := vals1 r
  obtain ⟨t, rfl⟩ := ru
  exact PySem.W.KIN.call_text hn hl ⟨.int n, H, I.tok _, ⟨_, rfl⟩, q⟩
/-! ### sorted -/
theorem call_sortedI : CallR X (.builtin "sorted") (fun xs H Q => ∃ (a : Addr) (ns : List Int), xs = [.ref a] ∧ SqL X.K H a (ns.map V.int) ∧ ns.length < 64 ∧
    ∀ (l : Addr) (ns' : List Int), H l = none → ns'.Perm ns → ns'.Pairwise (· ≤ ·) → Q (.ref l) (upd H l (.lst (ns'.map V.int)))) := by
  intro pins s σ H xs us Q I r h
  obtain ⟨a, ns, rfl, hq, h64, k⟩ := h
  obtain ⟨u, rfl, ru⟩ := vals1 r
  cases ru
  obtain ⟨its, rv, p, hz⟩ := I.list hq
  have hI := intsAre_of rv
  refine TS.sorted_of_ints p.isList (by rw [← rv.length]; exact hz) (by rw [← rv.length, List.length_map]; exact h64) hI fun out ns' a1 a2 a3 => ?_
  obtain ⟨e, he⟩ := sortedAll_at s.heap its out
  have hf : H (s.heap.objs.size + 1) = none := I.hok.fresh (Nat.le_succ _)
  refine ⟨.ref _, _, I.laid (t' := s.toks) (fun b o q => sortedAll_old q) (Nat.le_succ _) ?_, rfl, k _ ns' hf a2 a3⟩
  refine ⟨?_, out.toList, e, vals_ints a1, by rw [he]⟩
  rw [List.length_map, a2.length_eq]
  simpa using hz
/-! ### isinstance(x, T), T a built-in type or several in a tuple -/
theorem call_isinst : CallR X (.builtin "isinstance") (fun xs H Q => ∃ x n t b, xs = [x, .ty n] ∧ TyOf X.K H x t ∧ PySem.W.kitOne X.K t (.type n) = some b ∧ Q (.bl b) H) := by
  intro pins s σ H xs us Q I r h
  obtain ⟨x, n, t, b, rfl, ty, e, q⟩ := h
  obtain ⟨u, v, rfl, rx, rv⟩ := vals2 r
  cases rv
  exact isinst_ok I rx ty e fun tk => ⟨.bl b, H, I.tok tk, rfl, q⟩
/-! ### list(d): the keys -/
theorem key_val {P : Program} {w : World} {k : Key} {v : Value} (h : (mixKind P w).is k v = true) : RelV (kV k) v := by
  rcases keyIs_shape (show keyIs k v = true from h) with ⟨i, t, rfl, rfl⟩ | ⟨x, t, rfl, rfl⟩
  · exact ⟨t, rfl⟩
  · exact ⟨t, rfl⟩
theorem vals_at : ∀ {xs : List V} {us : List Value}, us.length = xs.length → (∀ (j : Nat) (v : Value), us[j]? = some v → ∃ x, xs[j]? = some x ∧ RelV x v) → Vals xs us
  | [], [], _, _ => .nil
  | [], _ :: _, h, _ => by simp at h
  | _ :: _, [], h, _ => by simp at h
  | x :: xs, u :: us, h, k => by
    obtain ⟨y, hy, ry⟩ := k 0 u rfl
    cases hy
    exact .cons ry (vals_at (by simpa using h) fun j v e => by simpa using k (j + 1) v (by simpa using e))
theorem call_listD (hc : X.calm = true) : CallR X (.type "list") (fun xs H Q => ∃ a kvs, xs = [.ref a] ∧ Rd H a (.dK kvs) ∧ ∀ l, H l = none → Q (.ref l) (upd H l (.lst (kvs.map fun kv => kV kv.1)))) := by
  intro pins s σ H xs us Q I r h
  obtain ⟨a, kvs, rfl, ha, q⟩ := h
  obtain ⟨u, rfl, ru⟩ := vals1 r
  cases ru
  obtain ⟨hz, lo, vs, rel, d⟩ := dk_rd I.hok ha
  obtain ⟨o, es, ep, ho, hx, hd, hk, hp, hn⟩ := id d
  have hl := rel.length
  have hm : s.heap.DictAt (mixKind X.prog X.w) a vs ep := ⟨o, es, ho, hx, hd, hk, hp, hn⟩
  refine PySem.W.kdl_call (PySem.W.kdl_dict (knd := mixKind X.prog X.w) lo) (I.ok.hd hc) hm (by omega) fun h' tk acc' c' kp hD hI => ?_
  refine ⟨.ref s.heap.objs.size, _, I.laid (t' := tk) kp (Nat.le_refl _) ?_, rfl, q _ (I.hok.fresh (Nat.le_refl _))⟩
  refine ⟨by rw [List.length_map]; exact hz, acc'.toList, c', vals_at ?_ fun j v e => ?_, hD⟩
  · rw [Array.length_toList, List.length_map]
    rw [hI.1, hl]
  · obtain ⟨k, x, hkx, his⟩ := hI.2 j v (by rw [← Array.getElem?_toList]; exact e)
    have hkeys := rel.keys
    have e1 : (kvs.map (·.1))[j]? = some k := by
      rw [hkeys, List.getElem?_map, hkx]
      rfl
    rw [List.getElem?_map] at e1
    rw [List.getElem?_map]
    cases e2 : kvs[j]? with
    | none => rw [e2] at e1; cases e1
    | some kv =>
      rw [e2] at e1
      cases e1
      exact ⟨_, rfl, key_val his⟩
end
end L2

set_option autoImplicit false
set_option maxRecDepth 100000
set_option linter.all false
set_option Elab.async false
namespace L2
open PySem PySem.Spec PyProof.Rows
/-! ### comprehensions: a block of its own, the names around it by their cells -/
structure CScope (osc : Scope) (N0 N' : List Str) (sel : List (Option Nat)) (scope : Scope) : Prop where
  kind : scope.kind = .function
  nocell : ∀ y ∈ scope.names, y.2 ≠ .cell
  names : ∀ y ∈ scope.names, y.2 = .local → scope.names.lookup y.1 = some .local
  len : sel.length = N'.length
  nd : N'.Nodup
  fr : ∀ y ∈ scope.names, y.2 = .free → osc.names.lookup y.1 = some .cell
  sel : ∀ (j : Nat) (i : Nat), j < sel.length → sel[j]? = some (some i) → ∃ x, N'[j]? = some x ∧ N0[i]? = some x ∧ scope.names.lookup x = some .free
def selOf (sel : List (Option Nat)) (σ : St) : St := sel.map fun o => o.bind fun i => (σ[i]?).join
theorem forIn_pure_inv {α β : Type} {f : α → β → Sem (ForInStep β)} (P : List α → β → Prop) (hf : ∀ x r b, P (x :: r) b → ∃ b', f x b = pure (.yield b') ∧ P r b') :
    ∀ (l : List α) (b : β), P l b → ∃ b', (forIn l b f : Sem β) = pure b' ∧ P [] b'
  | [], b, h => ⟨b, by rw [List.forIn_nil], h⟩
  | x :: l, b, h => by
    obtain ⟨b1, e1, h1⟩ := hf x l b h
    obtain ⟨b2, e2, h2⟩ := forIn_pure_inv P hf l b1 h1
    refine ⟨b2, ?_, h2⟩
    rw [List.forIn_cons, e1, pure_bind]
    exact e2
theorem closure_of {scope : Scope} {env : Env} (h : ∀ y ∈ scope.names, y.2 = .free → ∃ c, env.cells.lookup y.1 = some c) :
    ∃ cl, closureFor scope env = pure cl ∧ (∀ x c, cl.lookup x = some c → env.cells.lookup x = some c) ∧ ∀ x, (x, NameKind.free) ∈ scope.names → cl.lookup x = env.cells.lookup x := by
  obtain ⟨cl, e, h1, h2, _⟩ := forIn_pure_inv (f := fun (y : Str × NameKind) (cs : List (Str × Addr)) => if (y.2 == NameKind.free) = true then (do let c ← cellOf env y.1; pure (ForInStep.yield ((y.1, c) :: cs))) else pure (ForInStep.yield cs))
    (fun rest cs => (∀ x c, cs.lookup x = some c → env.cells.lookup x = some c) ∧ (∀ x, (x, NameKind.free) ∈ scope.names → (x, NameKind.free) ∈ rest ∨ cs.lookup x = env.cells.lookup x) ∧ ∀ y ∈ rest, y ∈ scope.names)
    (fun y r cs ⟨p1, p2, p3⟩ => by
      obtain ⟨n, k⟩ := y
      by_cases hk : k = .free
      · subst hk
        obtain ⟨c, hc⟩ := h (n, .free) (p3 _ List.mem_cons_self) rfl
        refine ⟨(n, c) :: cs, ?_, fun x d hd => ?_, fun x hx => ?_, fun y hy => p3 y (List.mem_cons_of_mem _ hy)⟩
        · have hc' : cellOf env n = pure c := by
            unfold cellOf
            rw [show env.cells.lookup n = some c from hc]
          simp only [beq_self_eq_true, if_true]
          rw [hc', pure_bind]
        · rw [List.lookup_cons] at hd
          cases e : x == n with
          | true =>
            rw [e] at hd
            cases hd
            rw [eq_of_beq e]
            exact hc
          | false =>
            rw [e] at hd
            exact p1 x d hd
        · rw [List.lookup_cons]
          cases e : x == n with
          | true =>
            rw [eq_of_beq e]
            exact .inr hc.symm
          | false =>
            rcases p2 x hx with z | z
            · rcases List.mem_cons.mp z with z | z
              · have : x = n := (Prod.mk.inj z).1
                rw [this] at e
                simp at e
              · exact .inl z
            · exact .inr z
      · refine ⟨cs, ?_, p1, fun x hx => ?_, fun y hy => p3 y (List.mem_cons_of_mem _ hy)⟩
        · have : (k == NameKind.free) = false := by simpa using hk
          simp only [this, Bool.false_eq_true, if_false]
        · rcases p2 x hx with z | z
          · rcases List.mem_cons.mp z with z | z
            · exact absurd (Prod.mk.inj z).2.symm hk
            · exact .inl z
          · exact .inr z)
    scope.names [] ⟨fun x c hc => by simp at hc, fun x hx => .inl hx, fun y hy => hy⟩
  refine ⟨cl, ?_, h1, fun x hx => (h2 x hx).resolve_left (by simp)⟩
  simp only [closureFor, bind_pure]
  exact e
/-- the block's context -/
abbrev compCx (X : Cx) (scope : Scope) (cl : List (Str × Addr)) (N' : List Str) (s₀ : Shared) (H₀ : Hp) (fp : List Addr) : Cx :=
  { X with N := N', s₀ := s₀, H₀ := H₀, env := compEnvC scope cl s₀.heap.objs.size X.env, outer := X.stack, ex := fp, fn := fun _ => false, pn := [], xe := fun _ _ => False }
theorem lookup_relabel_free {env : Env} {x : Str} (hk : env.scope.kind = .function) (hx : env.kindOf x = some .cell) : ∀ {names : List (Str × NameKind)}, names.lookup x = some .free →
    (names.map fun (n, k) => if (k == NameKind.free && env.scope.kind == .function && env.kindOf n == some .cell) then (n, NameKind.cell) else (n, k)).lookup x = some .cell
  | [], h => by simp at h
  | (n, k) :: r, h => by
    have ih := @lookup_relabel_free env x hk hx r
    show List.lookup x ((if (k == NameKind.free && env.scope.kind == .function && env.kindOf n == some .cell) = true then (n, NameKind.cell) else (n, k)) :: _) = _
    cases e : x == n with
    | true =>
      simp only [List.lookup_cons, e] at h
      cases h
      have en : x = n := eq_of_beq e
      subst en
      rw [if_pos (by rw [hk, hx]; rfl)]
      simp [List.lookup_cons]
    | false =>
      simp only [List.lookup_cons, e] at h
      split
      · simp only [List.lookup_cons, e]; exact ih h
      · simp only [List.lookup_cons, e]; exact ih h
theorem relabel_kinds {env : Env} {x : Str} {k' : NameKind} : ∀ {names : List (Str × NameKind)},
    (names.map fun (n, k) => if (k == NameKind.free && env.scope.kind == .function && env.kindOf n == some .cell) then (n, NameKind.cell) else (n, k)).lookup x = some k' → (k' = .cell ∨ k' = .free) →
    (∀ y ∈ names, y.2 ≠ NameKind.cell) → (x, NameKind.free) ∈ names
  | [], h, _, _ => by simp at h
  | (n, k) :: r, h, hk, hn => by
    have ih := @relabel_kinds env x k' r
    have h' : List.lookup x ((if (k == NameKind.free && env.scope.kind == .function && env.kindOf n == some .cell) = true then (n, NameKind.cell) else (n, k)) ::
      (r.map fun (n, k) => if (k == NameKind.free && env.scope.kind == .function && env.kindOf n == some .cell) then (n, NameKind.cell) else (n, k))) = some k' := h
    have tail : ∀ {z}, List.lookup x ((n, z) :: (r.map fun (n, k) => if (k == NameKind.free && env.scope.kind == .function && env.kindOf n == some .cell) then (n, NameKind.cell) else (n, k))) = some k' → (x == n) = false → (x, NameKind.free) ∈ (n, k) :: r := fun {z} q e => by
      simp only [List.lookup_cons, e] at q
      exact List.mem_cons_of_mem _ (ih q hk fun y hy => hn y (List.mem_cons_of_mem _ hy))
    cases e : x == n with
    | true =>
      have en : x = n := eq_of_beq e
      subst en
      by_cases z : (k == NameKind.free && env.scope.kind == .function && env.kindOf x == some .cell) = true
      · have z1 : k = .free := by
          rw [Bool.and_eq_true, Bool.and_eq_true] at z
          exact eq_of_beq z.1.1
        rw [z1]
        exact List.mem_cons_self
      · rw [if_neg z] at h'
        simp only [List.lookup_cons, beq_self_eq_true] at h'
        cases h'
        rcases hk with hk | hk
        · exact absurd hk (hn _ List.mem_cons_self)
        · rw [hk]
          exact List.mem_cons_self
    | false =>
      split at h'
      · exact tail h' e
      · exact tail h' e
section
variable {X : Cx} {pins : List (Addr × Obj)} {σ : St} {H : Hp} {s : Shared}
/-- the block begins: its frame is the next address -/
theorem inv_comp {osc : Scope} {N0 N' : List Str} {sel : List (Option Nat)} {scope : Scope} {cl : List (Str × Addr)} {fp : List Addr} {h1 : Heap} {t1 : Nat} (S : CScope osc N0 N' sel scope) (I : Inv X pins σ H s)
    (hosc : X.env.scope = osc) (hN0 : X.N = N0) (c1 : ∀ x c, cl.lookup x = some c → X.env.cells.lookup x = some c) (c2 : ∀ x, (x, NameKind.free) ∈ scope.names → cl.lookup x = X.env.cells.lookup x)
    (hf : ∀ b ∈ fp, FpOk X pins H b) (hfs : ∀ b ∈ fp, b < s.heap.objs.size) (hns : h1.Ns s.heap.objs.size fun _ => none) (hk : ∀ b o, s.heap.get? b = some o → h1.get? b = some o) :
    Inv (compCx X scope cl N' s H fp) [] (selOf sel σ) H { s with heap := h1, toks := t1 } := by
  have fnk : X.env.scope.kind = .function := I.ok.kind
  have relab : ∀ x k', (compEnvC scope cl s.heap.objs.size X.env).kindOf x = some k' → (k' = .cell ∨ k' = .free) → (x, NameKind.free) ∈ scope.names := fun x k' e hk' => relabel_kinds e hk' S.nocell
  have hcell : ∀ x, (x, NameKind.free) ∈ scope.names → ∃ c, X.env.cells.lookup x = some c := fun x hx => I.ok.has x (.inl (by
    show X.env.scope.names.lookup x = _
    rw [hosc]
    exact S.fr (x, .free) hx rfl))
  have stkno : ∀ b ∈ fp, b ∉ frs X.stack := fun b hb z => by
    rcases List.mem_cons.mp (I.stkSub b z) with e | e
    · exact (hf b hb).2.1 e
    · exact (hf b hb).2.2.1 e
  refine ⟨⟨I.ok.mod, by show (relabel scope X.env).kind = _; exact S.kind, I.ok.glob, I.ok.blt, Nat.le_refl _, fun x y c e1 e2 => I.ok.inj x y c (c1 x c e1) (c1 y c e2), fun x hx => ?_, (fun x c e => by cases e), I.ok.hd, I.ok.frames, .inl rfl,
    fun b hb => ⟨Nat.ne_of_lt (hfs b hb), fun x c e => (hf b hb).2.2.2.2.1 x c (c1 x c e)⟩, I.bs, Nat.le_trans I.ok.bsz I.sz, fun b o e hb => ?_, stkno, I.stack, I.stkFree⟩,
    rfl, I.bare, Un.kept hk, ⟨_, hns, fun j x v e1 e2 e3 => ?_⟩, fun x c e => ?_, I.hok.fresh (Nat.le_refl _), fun x c e => I.freeC x c (c1 x c e), fun p hp => absurd (show p ∈ ([] : List (Addr × Obj)) from hp) (by simp), I.hok.kept hk, ?_⟩
  · rcases hx with hx | hx
    · have m := relab x _ hx (.inl rfl)
      obtain ⟨c, hc⟩ := hcell x m
      exact ⟨c, (c2 x m).trans hc⟩
    · have m := relab x _ hx (.inr rfl)
      obtain ⟨c, hc⟩ := hcell x m
      exact ⟨c, (c2 x m).trans hc⟩
  · rcases (hf b hb).2.2.2.1 with z | z
    · exact I.ok.noex b o e z
    · exact absurd (Nat.lt_of_lt_of_le (Heap.lt_size (I.ok.bs b o e).1) z) (Nat.lt_irrefl _)
  · have hj : j < sel.length := by
      rw [S.len]
      exact (List.getElem?_eq_some_iff.mp e1).1
    unfold selOf at e2
    rw [List.getElem?_map] at e2
    cases q : sel[j]? with
    | none => rw [q] at e2; cases e2
    | some o =>
      rw [q] at e2
      cases o with
      | none => cases e2
      | some i =>
        obtain ⟨y, g1, g2, g3⟩ := S.sel j i hj q
        have e1' : N'[j]? = some x := e1
        rw [e1'] at g1
        cases g1
        have e2' : (σ[i]?).join = some v := by
          have : some ((σ[i]?).join) = some (some v) := e2
          exact Option.some.inj this
        have e2'' : σ[i]? = some (some v) := by
          cases z : σ[i]? with
          | none => rw [z] at e2'; cases e2'
          | some w' => rw [z] at e2'; exact congrArg some e2'
        have mfree : (x, NameKind.free) ∈ scope.names := PySem.mem_of_lookup g3
        have kx : X.env.scope.names.lookup x = some .cell := by
          rw [hosc]
          exact S.fr _ mfree rfl
        obtain ⟨m, hm, hl⟩ := I.loc
        obtain ⟨u, ru, lk⟩ := hl i x v (by rw [hN0]; exact g2) e2'' (.inr (.inl kx))
        refine ⟨u, ru, .inr ⟨.inl (lookup_relabel_free fnk kx g3), ?_⟩⟩
        rcases lk with ⟨k1, _⟩ | ⟨_, c, hc, hcell'⟩
        · have : X.env.scope.names.lookup x = some .local := k1
          rw [kx] at this
          cases this
        · obtain ⟨o, ho, hd⟩ := hcell'
          exact ⟨c, (c2 x mfree).trans hc, o, hk c o ho, hd⟩
  · obtain ⟨v, o, ho, hd⟩ := I.cell x c (c1 x c e)
    exact ⟨v, o, hk c o ho, hd⟩
  · show (selOf sel σ).length = N'.length
    unfold selOf
    rw [List.length_map, S.len]
/-- the block ends -/
theorem inv_compEnd {scope : Scope} {cl : List (Str × Addr)} {N' : List Str} {fp : List Addr} {σ' : St} {H' : Hp} {s' : Shared} {h' : Heap} (I : Inv X pins σ H s) (hf : ∀ b ∈ fp, FpOk X pins H b)
    (J : Inv (compCx X scope cl N' s H fp) [] σ' H' s') (hs : Heap.SameBut s.heap.objs.size s'.heap h') : Inv X pins σ H' { s' with heap := h' } := by
  have hC : H' s.heap.objs.size = none := J.free
  have ne : ∀ b o, s.heap.get? b = some o → b ≠ s.heap.objs.size := fun b o e => Nat.ne_of_lt (Heap.lt_size e)
  have up : ∀ b o, b ≠ s.heap.objs.size → s'.heap.get? b = some o → h'.get? b = some o := fun b o hb e => (hs.2 b hb).trans e
  have un := J.base
  refine I.call' (ch := fp) (s' := { s' with heap := h' }) J.os ⟨fun b o e n hb hx => up b o (ne b o e) (un.keep b o e n hb hx), fun b o e n hb hx => ?_, fun b o e n hx => un.free b o e n hx, fun b o e hx => ?_, un.tups, un.frzs, un.tbls⟩ (fun b ob e => ?_) J.bare
    fun b hb => ⟨(hf b hb).2.2.2.1, (hf b hb).2.1, (hf b hb).2.2.2.2.1, (hf b hb).2.2.2.2.2⟩
  · obtain ⟨sl, q⟩ := un.slot b o e n hb hx
    exact ⟨sl, up b _ (ne b o e) q⟩
  · obtain ⟨o', q⟩ := un.there b o e hx
    exact ⟨o', up b o' (ne b o e) q⟩
  · have hne : ∀ c u, H' c = some u → c ≠ s.heap.objs.size := fun c u q z => by rw [z, hC] at q; cases q
    refine (J.hok b ob e).stay (fun c u hc q => up c u ?_ q) (fun _ q => q) fun _ _ q => q
    rcases hc with z | z
    · rw [z]; exact hne b ob e
    · exact hne c _ z
/-- the tests of a comprehension -/
def PF (X : Cx) (ifs : List Expr) (t : TT) : Prop :=
  ∀ (pins : List (Addr × Obj)) (s : Shared) (σ : St) (H : Hp) (Q : Bool → Hp → Prop), Inv X pins σ H s → t σ H Q →
    wpAny (model X.prog X.w) X.A (forIn ifs true fun c r => if r = true then do let ok ← isTrue c X.env (eval c X.env); pure (ForInStep.yield ok) else pure (ForInStep.yield r)) (TP X pins σ Q) X.xe s
def tNoIf : TT := fun _ H Q => Q true H
theorem pf_nil {X : Cx} : PF X [] tNoIf := fun _ _ _ H _ I h => wpAny_tests_nil ⟨H, I, h⟩
/-- one turn after another: W the invariant with its measure, the items so far stand at p -/
def compW (J : It) (g : TG) (tif : TT) (te : TE) (p : Addr) (σ0 : St) (H0 : Hp) (Q : VK) : Prop :=
  ∃ W : Nat → Nat → St → Hp → Prop, (∃ m, W 0 m σ0 H0) ∧ ∀ i m σ2 H2, W i m σ2 H2 → (J.stop i H2 ∧ Q (.ref p) H2) ∨ (J.go i H2 ∧ ∃ N : St → Hp → Prop, (∀ σ' H', N σ' H' → ∃ m', m' < m ∧ W (i + 1) m' σ' H') ∧
    ∀ x H', J.yld i H2 x H' → g x σ2 H' fun σ3 H3 => tif σ3 H3 fun b H4 => if b = true then te σ3 H4 fun v H5 => ∃ xs, H5 p = some (.lst xs) ∧ xs.length < sizeLine ∧ N σ3 (upd H5 p (.lst (xs ++ [v]))) else N σ3 H4)
theorem comp_run {osc : Scope} {N0 N' : List Str} {sel : List (Option Nat)} {scope : Scope} {cl : List (Str × Addr)} {fp : List Addr} {it : Addr} {tn : Nat → Heap → Prop} {J : It} {tg iter elt : Expr} {ifs : List Expr} {pos : Pos} {g : TG} {tif : TT} {te : TE} {Q : VK}
    {RR : Value → Addr → Result → Shared → Prop} {E : Value → Shared → Prop} (S : CScope osc N0 N' sel scope) (hcalm : X.calm = true) (hosc : X.env.scope = osc) (hN0 : X.N = N0)
    (c1 : ∀ x c, cl.lookup x = some c → X.env.cells.lookup x = some c) (c2 : ∀ x, (x, NameKind.free) ∈ scope.names → cl.lookup x = X.env.cells.lookup x)
    (hg : ∀ s₀ H₀, PG (compCx X scope cl N' s₀ H₀ fp) tg g) (hif : ∀ s₀ H₀, PF (compCx X scope cl N' s₀ H₀ fp) ifs tif) (he : ∀ s₀ H₀, PE (compCx X scope cl N' s₀ H₀ fp) elt te)
    (I : Inv X pins σ H s) (T : Turn X.prog X.w X.K tg J fp it tn) (st : tn 0 s.heap) (hf : ∀ b ∈ fp, FpOk X pins H b)
    (body : ∀ p, H p = none → compW J g tif te p (selOf sel σ) (upd H p (.lst [])) Q)
    (hRR : ∀ (p : Addr) (s3 s' : Shared) (σ' : St) (H' : Hp), Inv X pins σ (upd H p (.lst [])) s3 → (∀ b ∈ fp, FpOk X pins (upd H p (.lst [])) b) → Inv (compCx X scope cl N' s3 (upd H p (.lst [])) fp) [] σ' H' s' → Q (.ref p) H' → RR (.ref p) s3.heap.objs.size (.ok .next) s') :
    wpAny (model X.prog X.w) X.A (newList []) (fun acc s₃ => wpAny (model X.prog X.w) X.A (newFunctionEnv scope X.env.globals cl [] X.env.qual none .none (some X.env)) (fun cenv s₄ =>
      codeAny (model X.prog X.w) X.A (.compStart (.ListComp elt [⟨tg, iter, ifs, 0⟩] scope pos) 0 (.ref it) acc { cenv with scope := relabel scope X.env }) (RR acc cenv.locals) s₄) E s₃) E s := by
  refine wpAny_newObj_type (wpAny_newFunctionEnv S.nocell (by intro y hy; simp at hy) (fun h₁ hns hsb => ?_) S.kind)
  dsimp only at hns hsb ⊢
  have hp : H s.heap.objs.size = none := I.hok.fresh (Nat.le_refl _)
  have I3 : Inv X pins σ (upd H s.heap.objs.size (.lst [])) { s with heap := s.heap.push { cls := .type "list", dict := none, data := .seq ([] : List Value).toArray } } :=
    I.laid (t' := s.toks) (fun b u e => Heap.get?_push_of_some _ e) (Nat.le_refl _) ⟨Nat.zero_le _, [], 0, .nil, Heap.get?_push_size _ rfl⟩
  have hfl : ∀ b ∈ fp, b < s.heap.objs.size := fun b hb => by
    obtain ⟨o, e, _⟩ := T.obj 0 _ st b hb
    exact Heap.lt_size e
  have hf3 : ∀ b ∈ fp, FpOk X pins (upd H s.heap.objs.size (.lst [])) b := fun b hb => by
    have := hf b hb
    refine ⟨?_, this.2⟩
    rw [upd_ne (Nat.ne_of_lt (hfl b hb))]
    exact this.1
  obtain ⟨W, ⟨m0, w0⟩, turn⟩ := body _ hp
  have fin := fun s' σ' H' => hRR s.heap.objs.size { s with heap := s.heap.push { cls := .type "list", dict := none, data := .seq ([] : List Value).toArray } } s' σ' H' I3 hf3
  generalize hH3 : upd H s.heap.objs.size (.lst []) = H3 at I3 hf3 w0 fin
  have hpl : ∀ xs : List V, True := fun _ => trivial
  generalize hP : s.heap.objs.size = p at *
  generalize hs3 : ({ s with heap := s.heap.push { cls := .type "list", dict := none, data := .seq ([] : List Value).toArray } } : Shared) = s3 at I3 fin
  have e3 : s.heap.push { cls := .type "list", dict := none, data := .seq ([] : List Value).toArray } = s3.heap := by rw [← hs3]
  rw [e3] at hns hsb ⊢
  have kept : ∀ b o, s3.heap.get? b = some o → h₁.get? b = some o := fun b o e => hsb.extBut b o (Nat.ne_of_lt (Heap.lt_size e)) (Heap.get?_push_of_some _ e)
  have old : ∀ b o, s.heap.get? b = some o → h₁.get? b = some o := fun b o e => kept b o (by rw [← e3]; exact Heap.get?_push_of_some _ e)
  have hfs3 : ∀ b ∈ fp, b < s3.heap.objs.size := fun b hb => by
    rw [← e3, Heap.size_push, hP]
    exact Nat.lt_succ_of_lt (hfl b hb)
  have J0 : ∀ t1, Inv (compCx X scope cl N' s3 H3 fp) [] (selOf sel σ) H3 { s3 with heap := h₁, toks := t1 } := fun t1 =>
    inv_comp S I3 hosc hN0 c1 c2 hf3 hfs3 (by simpa using hns) kept
  have tn0 : tn 0 h₁ := T.keep 0 _ _ st fun b hb o e => old b o e
  have loop : ∀ t1, codeAny (model X.prog X.w) X.A (.compLoop (.ListComp elt [⟨tg, iter, ifs, 0⟩] scope pos) 0 (.ref it) (.ref p) (compEnvC scope cl s3.heap.objs.size X.env)) (RR (.ref p) s3.heap.objs.size) { s3 with heap := h₁, toks := t1 } := by
    intro t1
    have stat : ∀ {H' : Hp}, (∀ b ∈ fp, H' b = none) → ∀ b ∈ fp, FpOk (compCx X scope cl N' s3 H3 fp) [] H' b := fun hn b hb =>
      ⟨hn b hb, ((J0 t1).ok.exf b hb).1, (J0 t1).ok.exfs b hb, .inl hb, ((J0 t1).ok.exf b hb).2, fun q hq => absurd (show q ∈ ([] : List (Addr × Obj)) from hq) (by simp)⟩
    refine codeAny_loop rfl (fun n s' => ∃ i σ' H', Inv (compCx X scope cl N' s3 H3 fp) [] σ' H' s' ∧ tn i s'.heap ∧ (∀ b ∈ fp, H' b = none) ∧ W i n σ' H') (fun n s5 hI => ?_) m0 ⟨0, _, H3, J0 t1, tn0, fun b hb => (hf3 b hb).1, w0⟩
    obtain ⟨i, σ5, H5, I5, st5, fr5, w5⟩ := hI
    show wpAny _ X.A ((compTurn (.ListComp elt [⟨tg, iter, ifs, 0⟩] scope pos) 0 (.ref it) (.ref p) (compEnvC scope cl s3.heap.objs.size X.env)).onRaise (fun x => do noteFrame x (compEnvC scope cl s3.heap.objs.size X.env); theTreesLotGoes x)) _ _ s5
    refine wpAny_noted ?_
    rw [compTurn_list]
    have no : ∀ {α : Type} {t : Sem α} {Q : α → Shared → Prop} {E' : Value → Shared → Prop} {s : Shared}, wpAny (model X.prog X.w) X.A t Q (fun _ _ => False) s → wpAny (model X.prog X.w) X.A t Q E' s := fun h => wpAny_mono h (fun _ _ q => q) fun _ _ z => False.elim z
    refine wpAny_bind (wpAny_standAt (wpAny_bind ?_))
    rcases turn i n σ5 H5 w5 with ⟨stop, qn⟩ | ⟨go, N, hN, step⟩
    · refine thn (T.done (compCx X scope cl N' s3 H3 fp) rfl rfl rfl hcalm i [] s5 σ5 H5 _ I5 (stat fr5) st5 stop) fun r s6 ⟨hr, I6⟩ => ?_
      subst hr
      exact wpAny_pure (fin s6 σ5 H5 I6 qn)
    · refine thn (T.item (compCx X scope cl N' s3 H3 fp) rfl rfl rfl hcalm i [] s5 σ5 H5 _ I5 (stat fr5) st5 go) fun r s6 ⟨u, hr, h6⟩ => ?_
      subst hr
      refine wpAny_bind (thn h6 fun _ s7 ⟨x, H7, I7, r7, y7, st7, fr7⟩ => ?_)
      have I7' := I7.pinned (stat fr7) (T.obj _ _ st7)
      refine wpAny_bind (thn (no (hg s3 H3 _ s7 σ5 H7 x u _ I7' r7 (step x H7 y7))) fun _ s8 ⟨σ8, H8, I8, q8⟩ => ?_)
      refine wpAny_bind (thn (no (hif s3 H3 _ s8 σ8 H8 _ I8 q8)) fun b s9 ⟨H9, I9, q9⟩ => ?_)
      have again : ∀ {σ' : St} {H' : Hp} {s' : Shared}, Inv (compCx X scope cl N' s3 H3 fp) ([] ++ pinsAt fp s7.heap) σ' H' s' → N σ' H' → ∃ m, m < n ∧ ∃ i σ' H', Inv (compCx X scope cl N' s3 H3 fp) [] σ' H' s' ∧ tn i s'.heap ∧ (∀ b ∈ fp, H' b = none) ∧ W i m σ' H' := fun {σ' H' s'} I' n' => by
        obtain ⟨m', hm, w'⟩ := hN σ' H' n'
        refine ⟨m', hm, i + 1, σ', H', I'.unpinned, T.keep _ _ _ st7 fun b hb o e => (I'.pin (b, o) (List.mem_append_right _ (List.mem_append_right _ (mem_pinsAt hb e)))).1, fun b hb => ?_, w'⟩
        obtain ⟨o, e, d⟩ := T.obj _ _ st7 b hb
        exact (I'.pin (b, o) (List.mem_append_right _ (List.mem_append_right _ (mem_pinsAt hb e)))).2.1
      cases b with
      | false => exact wpAny_pure ⟨rfl, again I9 q9⟩
      | true =>
        refine wpAny_bind (wpAny_bind (thn (no (he s3 H3 _ s9 σ8 H9 _ I9 q9)) fun v s10 ⟨y, H10, I10, r10, xs, hx, hz, q10⟩ => ?_))
        refine wpAny_bind (thn (no (mt_append _ s10 σ8 H10 (.ref p) [y] (.ref p) [v] (fun v' H' => v' = .non ∧ N σ8 H') I10 rfl (.cons r10 .nil) ⟨p, xs, y, rfl, rfl, hx, hz, rfl, q10⟩)) fun _ s11 ⟨_, H11, I11, _, _, q11⟩ => ?_)
        exact wpAny_pure (wpAny_pure ⟨rfl, again I11 q11⟩)
  have es : ∀ t1, ({ s3 with heap := h₁, toks := t1 } : Shared) = { s with heap := h₁, toks := t1 } := fun t1 => by rw [← hs3]
  have L := loop (s.toks + ([] : List (Str × Value)).length)
  rw [es] at L
  exact codeAny_compStart_list L (T.self _ 0 _ _ _ tn0 L)
/-- [elt for tg in iter if ..], as a value -/
def tComp (sel : List (Option Nat)) (wi : TI) (g : TG) (tif : TT) (te : TE) : TE := fun σ H Q => wi σ H fun J H1 => ∀ p, H1 p = none → compW J g tif te p (selOf sel σ) (upd H1 p (.lst [])) Q
theorem pe_comp {osc : Scope} {N0 N' : List Str} {sel : List (Option Nat)} {scope : Scope} {tg iter elt : Expr} {ifs : List Expr} {pos : Pos} {wi : TI} {g : TG} {tif : TT} {te : TE} (S : CScope osc N0 N' sel scope) (hcalm : X.calm = true) (hosc : X.env.scope = osc) (hN0 : X.N = N0)
    (hi : PI X tg iter wi) (hg : ∀ cl s₀ H₀ fp, PG (compCx X scope cl N' s₀ H₀ fp) tg g) (hif : ∀ cl s₀ H₀ fp, PF (compCx X scope cl N' s₀ H₀ fp) ifs tif) (he : ∀ cl s₀ H₀ fp, PE (compCx X scope cl N' s₀ H₀ fp) elt te)
    (hs : ∀ x, foldedSetIterable iter X.env x = pure x := by intro _; rfl) : PE X (.ListComp elt [⟨tg, iter, ifs, 0⟩] scope pos) (tComp sel wi g tif te) := by
  intro pins s σ H Q I h
  have hcell : ∀ y ∈ scope.names, y.2 = .free → ∃ c, X.env.cells.lookup y.1 = some c := fun y hy e => I.ok.has y.1 (.inl (by
    show X.env.scope.names.lookup y.1 = _
    rw [hosc]
    exact S.fr y hy e))
  obtain ⟨cl, hcl, c1, c2⟩ := closure_of hcell
  rw [eval_ListComp]
  refine wpAny_comprehension_free (use := none) rfl hs hcl S.kind S.names (thn (hi pins s σ H _ I h) fun v s1 h1 => thn h1 fun itv s2 h2 => ?_)
  obtain ⟨it, fp, tn, J, H2, e, I2, T, st2, f2, body⟩ := h2
  subst e
  refine comp_run (RR := fun acc C => compPost (model X.prog X.w) X.A X.xe none (EP X pins σ Q) acc C) S hcalm hosc hN0 c1 c2 (fun s₀ H₀ => hg cl s₀ H₀ fp) (fun s₀ H₀ => hif cl s₀ H₀ fp) (fun s₀ H₀ => he cl s₀ H₀ fp) I2 T st2 f2 body ?_
  intro p s3 s' σ' H' I3 hf3 J' q
  obtain ⟨m, hm, _⟩ := J'.loc
  exact ⟨m, hm, fun h' hs' => ⟨.ref p, H', inv_compEnd I3 hf3 J' hs', rfl, q⟩⟩
/-- name = [elt for tg in iter if ..]: stored ahead of the block's end -/
theorem ps_setC {osc : Scope} {N0 N' : List Str} {sel : List (Option Nat)} {scope : Scope} {tg iter elt : Expr} {ifs : List Expr} {pos pos' spos : Pos} {wi : TI} {g : TG} {tif : TT} {te : TE} {i : Nat} {y : Str} (S : CScope osc N0 N' sel scope) (hcalm : X.calm = true) (hosc : X.env.scope = osc) (hN0 : X.N = N0)
    (hN : X.N.Nodup) (hiy : X.N[i]? = some y) (hy : X.env.scope.names.lookup y = some .local) (hi : PI X tg iter wi) (hg : ∀ cl s₀ H₀ fp, PG (compCx X scope cl N' s₀ H₀ fp) tg g) (hif : ∀ cl s₀ H₀ fp, PF (compCx X scope cl N' s₀ H₀ fp) ifs tif) (he : ∀ cl s₀ H₀ fp, PE (compCx X scope cl N' s₀ H₀ fp) elt te)
    (hsw : swapsWith (.ListComp elt [⟨tg, iter, ifs, 0⟩] scope pos) (some (.Name y pos')) spos.line X.env = pure true) (hs : ∀ x, foldedSetIterable iter X.env x = pure x := by intro _; rfl) :
    PS X (.Assign [.Name y pos'] (.ListComp elt [⟨tg, iter, ifs, 0⟩] scope pos) spos) (tAsg (tComp sel wi g tif te) (gName i)) := by
  intro pins s σ H D I h
  have hcell : ∀ y ∈ scope.names, y.2 = .free → ∃ c, X.env.cells.lookup y.1 = some c := fun y hy e => I.ok.has y.1 (.inl (by
    show X.env.scope.names.lookup y.1 = _
    rw [hosc]
    exact S.fr y hy e))
  obtain ⟨cl, hcl, c1, c2⟩ := closure_of hcell
  rw [exec_Assign_Name_used _ _ _ _ hsw]
  refine wpAny_bind (wpAny_standAt (wpAny_bind ?_))
  show wpAny _ X.A (do let _ ← comprehension (.ListComp elt [⟨tg, iter, ifs, 0⟩] scope pos) scope X.env _ (newList []) false (eval iter X.env) (some (assign (.Name y pos') X.env))) _ _ s
  refine wpAny_bind (wpAny_mono (wpAny_comprehension_free (use := some (assign (.Name y pos') X.env)) (Q := fun _ s' => SP X pins D .next s') rfl hs hcl S.kind S.names (thn (hi pins s σ H _ I h) fun v s1 h1 => thn h1 fun itv s2 h2 => ?_)) (fun _ s' hq => wpAny_pure (wpAny_pure hq)) fun _ _ e => e)
  obtain ⟨it, fp, tn, J, H2, e, I2, T, st2, f2, body⟩ := h2
  subst e
  refine comp_run (RR := fun acc C => compPost (model X.prog X.w) X.A X.xe (some (assign (.Name y pos') X.env)) (fun _ s' => SP X pins D .next s') acc C) S hcalm hosc hN0 c1 c2 (fun s₀ H₀ => hg cl s₀ H₀ fp) (fun s₀ H₀ => hif cl s₀ H₀ fp) (fun s₀ H₀ => he cl s₀ H₀ fp) I2 T st2 f2 body ?_
  intro p s3 s' σ' H' I3 hf3 J' q
  obtain ⟨m, hm, _⟩ := J'.loc
  have I4 := inv_compEnd I3 hf3 J' (Heap.SameBut.refl _ _)
  have hCl : s3.heap.objs.size ≠ X.env.locals := fun z => by
    have := I3.lt
    rw [← z] at this
    exact Nat.lt_irrefl _ this
  show wpAny _ X.A (assign (.Name y pos') X.env (.ref p)) _ _ _
  refine wpAny_assign_Name (store_ok2 I4 hN hiy (.inl hy) (v := .ref p) rfl (fun s5 I5 ⟨a, hs5, ha⟩ => ?_) (.inr hy))
  have haC : s3.heap.objs.size ≠ a := by
    rcases ha with z | z
    · rw [z]; exact hCl
    · intro z2
      obtain ⟨v, o, ho, _⟩ := I3.cell y a z
      rw [← z2] at ho
      exact Nat.lt_irrefl _ (Heap.lt_size ho)
  obtain ⟨f0, f1, f2, f3, f4, f5⟩ := I3.fpOk (b := s3.heap.objs.size) (H' := H') (Nat.le_refl _) J'.free
  exact ⟨m, hm.sameBut hs5 haC, fun h' hs' => ⟨_, H', I5.turned (t' := s5.toks) (fun b o hb e => (hs'.2 b hb).trans e) f0 f1 f3 f4 f5, q⟩⟩
end
end L2

set_option autoImplicit false
set_option maxRecDepth 100000
set_option linter.all false
set_option Elab.async false
namespace L2
open PySem PySem.Spec PyProof.Rows
/-! ### for k, v in d.items() -/
/-! ### == and != over data: lists and tuples of these, ints, texts, bools, None -/
mutual
inductive Dat (K : PySem.W.Frag) (H : Hp) : V → PyData → Prop
  | non : Dat K H .non .none
  | bl (b : Bool) : Dat K H (.bl b) (.bool b)
  | int (i : Int) : Dat K H (.int i) (.int i)
  | str (x : Str) : Dat K H (.str x) (.str x)
  | lst {a : Addr} {xs : List V} {ds : List PyData} : SqL K H a xs → Dats K H xs ds → Dat K H (.ref a) (.list ds)
  | tup {a : Addr} {xs : List V} {ds : List PyData} : SqT K H a xs → Dats K H xs ds → Dat K H (.ref a) (.tuple ds)
inductive Dats (K : PySem.W.Frag) (H : Hp) : List V → List PyData → Prop
  | nil : Dats K H [] []
  | cons {x : V} {xs : List V} {d : PyData} {ds : List PyData} : Dat K H x d → Dats K H xs ds → Dats K H (x :: xs) (d :: ds)
end
section
variable {X : Cx} {pins : List (Addr × Obj)} {σ : St} {H : Hp} {s : Shared}
mutual
theorem Dat.reads (I : Inv X pins σ H s) : ∀ {x : V} {d : PyData} {u : Value}, Dat X.K H x d → RelV x u → ∃ as, Reads s.heap u d as
  | _, _, _, .non, r => by cases r; exact ⟨_, .none⟩
  | _, _, _, .bl b, r => by cases r; exact ⟨_, .bool b⟩
  | _, _, _, .int i, r => by obtain ⟨t, rfl⟩ := r; exact ⟨_, .int i t⟩
  | _, _, _, .str x, r => by obtain ⟨t, rfl⟩ := r; exact ⟨_, .str x t⟩
  | _, _, _, .lst hq hd, r => by
    cases r
    obtain ⟨its, rv, ⟨o, n, e, c, _, dd⟩, _⟩ := I.list hq
    obtain ⟨as, ra⟩ := Dats.reads I hd rv
    exact ⟨_, .list e c dd (by simpa using ra)⟩
  | _, _, _, .tup hq hd, r => by
    cases r
    obtain ⟨its, rv, ⟨o, e, c, n, dd⟩, _⟩ := I.tuple hq
    obtain ⟨as, ra⟩ := Dats.reads I hd rv
    exact ⟨_, .tuple e c dd (by simpa using ra)⟩
theorem Dats.reads (I : Inv X pins σ H s) : ∀ {xs : List V} {ds : List PyData} {us : List Value}, Dats X.K H xs ds → Vals xs us → ∃ as, ReadsAll s.heap us ds as
  | _, _, _, .nil, r => by cases r; exact ⟨_, .nil⟩
  | _, _, _, .cons h t, r => by
    cases r with
    | cons r1 r2 =>
      obtain ⟨as, a1⟩ := Dat.reads I h r1
      obtain ⟨bs, b1⟩ := Dats.reads I t r2
      exact ⟨_, .cons a1 b1⟩
end
def rEqD (X : Cx) (neg : Bool) : R2 := fun x y H Q => ∃ d e : PyData, Dat X.K H x d ∧ Dat X.K H y e ∧ d.canLay0 = true ∧ e.canLay0 = true ∧ d.depth ≤ 60 ∧ Q (.bl (if neg then !PyData.eqv d e else PyData.eqv d e)) H
theorem op_eqD (hu : X.A.units + 60 < cLine) : OpR X (compareOp .Eq) (rEqD X false) := by
  intro pins s σ H x y v u Q I rx ry h
  obtain ⟨d, e, hd, he, c1, c2, dp, q⟩ := h
  obtain ⟨as, ra⟩ := hd.reads I rx
  obtain ⟨bs, rb⟩ := he.reads I ry
  exact SeqAt.compareEq_reads ra rb c1 c2 (by omega) ⟨.bl _, H, I, rfl, q⟩
end
end L2

set_option autoImplicit false
set_option maxRecDepth 100000
set_option linter.all false
set_option Elab.async false
namespace L2
open PySem PySem.Spec PyProof.Rows
section
variable {X : Cx}
theorem op_neD (hu : X.A.units + 60 < cLine) : OpR X (compareOp .NotEq) (rEqD X true) := by
  intro pins s σ H x y v u Q I rx ry h
  obtain ⟨d, e, hd, he, c1, c2, dp, q⟩ := h
  obtain ⟨as, ra⟩ := hd.reads I rx
  obtain ⟨bs, rb⟩ := he.reads I ry
  exact SeqAt.compareNe_reads ra rb c1 c2 (by omega) ⟨.bl _, H, I, rfl, q⟩
/-! ### two dicts of the same pairs, their values ints -/
/-! ### dict(d) -/
/-! ### isinstance(x, (T, ..)) -/
/-! ### what the built-in types say of one another, whatever the text -/
theorem kit_eq (K : PySem.W.Frag) (n : String) : PySem.W.kitOne K (.type n) (.type n) = some true := by
  unfold PySem.W.kitOne
  rw [if_pos (by simp)]
theorem kit_int_bool (K : PySem.W.Frag) : PySem.W.kitOne K (.type "int") (.type "bool") = some false := by with_unfolding_all rfl
end
end L2

set_option autoImplicit false
set_option maxRecDepth 100000
set_option linter.all false
set_option Elab.async false
namespace L2
open PySem PySem.Spec PyProof.Rows
/-! ### comprehensions in short -/
theorem comp_list {K : PySem.W.Frag} {a : Addr} {xs : List V} {g : TG} {tif : TT} {te : TE} {p : Addr} {σ : St} {H : Hp} {Q : VK} (Pv : Nat → St → Hp → Prop) (h0 : Pv 0 σ H) (hl : ∀ i σ H, i ≤ xs.length → Pv i σ H → SqL K H a xs)
    (hs : ∀ i x σ H, xs[i]? = some x → Pv i σ H → g x σ H fun σ3 H3 => tif σ3 H3 fun b H4 => if b = true then te σ3 H4 fun v H5 => ∃ ys, H5 p = some (.lst ys) ∧ ys.length < sizeLine ∧ Pv (i + 1) σ3 (upd H5 p (.lst (ys ++ [v]))) else Pv (i + 1) σ3 H4)
    (hd : ∀ σ H, Pv xs.length σ H → Q (.ref p) H) : compW (Itl K a) g tif te p σ H Q := by
  refine ⟨fun i m σ H => m = xs.length - i ∧ i ≤ xs.length ∧ Pv i σ H, ⟨xs.length, by simp, Nat.zero_le _, h0⟩, ?_⟩
  rintro i m σ H ⟨rfl, hi, q⟩
  have sq := hl i σ H hi q
  by_cases hlt : i < xs.length
  · refine .inr ⟨⟨xs, xs[i], sq, by simp [hlt]⟩, Pv (i + 1), fun σ' H' p' => ⟨xs.length - (i + 1), by omega, rfl, hlt, p'⟩, fun x H' y => ?_⟩
    obtain ⟨e, y⟩ := y
    subst e
    exact hs i x σ _ (y xs sq) q
  · have e : i = xs.length := by omega
    subst e
    exact .inl ⟨⟨xs, sq, Nat.le_refl _⟩, hd σ H q⟩
theorem small_1000 {n : Nat} (h : n ≤ 1000) : n < sizeLine := Nat.lt_of_le_of_lt h (by decide)
/-- a fresh object more: all that was tracked is as it was -/
theorem Same.upd {H : Hp} {p : Addr} {o : HO} (h : H p = none) : Same H (upd H p o) := fun b u e => by
  rw [upd_ne (ne_of_none e h)]
  exact e
theorem Same.tr {H H1 : Hp} {p : Addr} {o : HO} (s : Same H H1) (h : H1 p = none) : Same H (L2.upd H1 p o) := s.trans (Same.upd h)
end L2

set_option autoImplicit false
set_option maxRecDepth 100000
set_option linter.all false
set_option Elab.async false
namespace L2
open PySem PySem.Spec PyProof.Rows
/-! ### the text of a one with noughts -/
section
variable {X : Cx}
/-! ### arguments, without a look at the ones behind -/
section
variable {X : Cx} {es : List Expr} {t : TA} {te : TE}
theorem pa_int {i j p} (h : PA X es t) : PA X (.Constant (.int i) j p :: es) (tCons (tC (.int i)) t) := pa_cons pe_int h (by rfl)
theorem pa_nm {x p} (he : PE X (.Name x p) te) (h : PA X es t) : PA X (.Name x p :: es) (tCons te t) := pa_cons he h (by rfl)
theorem pa_bin {a op b p} (he : PE X (.BinOp a op b p) te) (h : PA X es t) : PA X (.BinOp a op b p :: es) (tCons te t) := pa_cons he h (by rfl)
theorem pa_sub {a b p} (he : PE X (.Subscript a b p) te) (h : PA X es t) : PA X (.Subscript a b p :: es) (tCons te t) := pa_cons he h (by rfl)
theorem pa_call {a b c p} (he : PE X (.Call a b c p) te) (h : PA X es t) : PA X (.Call a b c p :: es) (tCons te t) := pa_cons he h (by rfl)
end
/-! ### one of a written list -/
theorem pick {vs : List Int} {c : Int} (h0 : 0 ≤ c) (h1 : c < vs.length) : ∃ v, v ∈ vs ∧ atI (vs.map V.int) c = some (V.int v) := by
  obtain ⟨j, rfl⟩ := Int.eq_ofNat_of_zero_le h0
  have hj : j < vs.length := by omega
  exact ⟨vs[j], List.getElem_mem hj, atI_nat (by rw [List.getElem?_map]; simp [hj])⟩
theorem pick_mod {vs : List Int} {c m : Int} (h : m = vs.length) (h0 : 0 < m) : ∃ v, v ∈ vs ∧ atI (vs.map V.int) (c % m) = some (V.int v) :=
  pick (Int.emod_nonneg _ (by omega)) (by have := Int.emod_lt_of_pos c h0; omega)
end
end L2

set_option autoImplicit false
set_option maxRecDepth 100000
set_option linter.all false
set_option Elab.async false
/-! tuples of ints, as long as one another: t > u, t >= u; max of a list of such -/

set_option autoImplicit false
set_option maxRecDepth 100000
set_option linter.all false
set_option Elab.async false
/-! max of a list whose items are compared by what the heap holds of them -/


set_option autoImplicit false
set_option maxRecDepth 100000
set_option linter.all false
set_option Elab.async false
/-! dict(l), l a list of pairs -/

set_option autoImplicit false
set_option maxRecDepth 100000
set_option linter.all false
set_option Elab.async false
/-! list(reversed(l)) -/



set_option autoImplicit false
set_option maxRecDepth 100000
set_option linter.all false
set_option Elab.async false
/-! sorted(d.items()), d a dict of ints by ints -/

set_option autoImplicit false
set_option maxRecDepth 100000
set_option linter.all false
set_option Elab.async false
/-! Exceptions of the text's own classes: raised in a def, passed on by its callers, caught by a try. -/
namespace L2
open PySem PySem.Spec PyProof.Rows
/-- what stands above ValueError -/
abbrev mroVE : List Value := [.type "ValueError", .type "Exception", .type "BaseException", .type "object"]
/-- a class of the text that stands under ValueError (whatever classes of the text between) and has no __init__ -/
structure ExcC (K : PySem.W.Frag) (C : Addr) : Prop where
  ex : PySem.W.excIn K C mroVE "ValueError.__new__" = true
theorem ExcC.obj {K : PySem.W.Frag} {C : Addr} {h : Heap} (c : ExcC K C) (X : K.In h) : ∃ bm N nm q bs hdct sn sub ab col dd k0 k1 k2 k3 k5 mN,
    h.get? C = some (excClassObj nm q C N bs bm hdct sn sub ab col dd k0 k1 k2 k3 k5 "ValueError.__new__") ∧ h.Ns N mN ∧ mN "__init__" = none ∧ OwnTail h mroVE bm ∧ ∀ v, PySem.W.mroIn K C v = some ((Value.ref C :: bm).contains v) := by
  have q := c.ex
  unfold PySem.W.excIn at q
  split at q
  · rename_i dd cd sl ho
    split at q
    · rename_i C' bm k0 k1 k2 k3 n k5 hm hs
      simp only [Bool.and_eq_true, beq_iff_eq, Bool.not_eq_true'] at q
      obtain ⟨⟨⟨⟨⟨rfl, rfl⟩, hdel⟩, ht⟩, hok⟩, hni⟩ := q
      have hmro : ∀ v, PySem.W.mroIn K C' v = some ((Value.ref C' :: bm).contains v) := fun v => by
        unfold PySem.W.mroIn PySem.W.clsIn
        rw [ho]
        show (if cd.mro.isEmpty = true then none else some (cd.mro.contains v)) = _
        rw [hm]
        rfl
      obtain ⟨nm, bs, mro, ns, qn, hd, sn, sub, ab, col, del⟩ := cd
      dsimp only at hm hdel hok hni
      subst hm hdel
      have hsl : sl = #[k0, k1, k2, k3, some (.builtin "ValueError.__new__"), k5] := by
        obtain ⟨l⟩ := sl
        simp only at hs
        rw [hs]
      subst hsl
      exact ⟨bm, ns, nm, qn, bs, hd, sn, sub, ab, col, dd, k0, k1, k2, k3, k5, _, X _ _ ho, .of_isNs (PySem.W.isNs_of_in X hok), PySem.W.nsMap_none_of_in X hok hni, PySem.W.tail_of_in X ht, hmro⟩
    · cases q
  · cases q
/-- an exception of the class C beside the class C' -/
theorem excMatches_own {M : Model} {A : Around} {E : Value → Shared → Prop} {h : Heap} {g : Array GenState} {d : Drawn} {t : Nat} {os : OsState} {e C C' : Addr} {oe : Obj} {b : Bool} {Q : Bool → Shared → Prop} {K : PySem.W.Frag}
    (X : K.In h) (c : ExcC K C) (c' : ExcC K C') (he : h.get? e = some oe) (hcls : oe.cls = .ref C) (hm : PySem.W.mroIn K C (.ref C') = some b) (hq : Q b ⟨h, g, d, t, os⟩) : wpAny M A (excMatches (.ref e) (.ref C')) Q E ⟨h, g, d, t, os⟩ := by
  obtain ⟨bm, N, nm, q, bs, hdct, sn, sub, ab, col, dd, k0, k1, k2, k3, k5, mN, hC, hN, hni, T, hmr⟩ := c.obj X
  obtain ⟨bm', N', nm', q', bs', hdct', sn', sub', ab', col', dd', k0', k1', k2', k3', k5', mN', hC', hN', hni', T', hmr'⟩ := c'.obj X
  have hcB : (Value.ref C' :: bm').contains (.type "BaseException") = true := by rw [List.contains_cons, T'.hasType (b := true) (by decide +kernel), Bool.or_true]
  have hcC : (Value.ref C :: bm).contains (.ref C') = b := by
    rw [hmr] at hm
    exact Option.some.inj hm
  have f := tc_notTuple
  unfold excMatches
  cases b with
  | true =>
    repeat (first | (with_reducible refine wpAny_loadPart_at he ?_; rw [hcls]) | with_reducible refine wpAny_loadPart_at hC' ?_ | (with_reducible refine wpAny_isSubtype_exc hC' ?_; rw [hcB]) | (with_reducible refine wpAny_isSubtype_exc hC ?_; rw [hcC]) | wp_step)
    exact hq
  | false =>
    repeat (first | (with_reducible refine wpAny_loadPart_at he ?_; rw [hcls]) | with_reducible refine wpAny_loadPart_at hC' ?_ | (with_reducible refine wpAny_isSubtype_exc hC' ?_; rw [hcB]) | (with_reducible refine wpAny_isSubtype_exc hC ?_; rw [hcC]) | wp_step)
    exact hq
/-! ### an exception in flight, behind a call -/
theorem ObjOk.get {P : Program} {w : World} {H : Hp} {h : Heap} {a : Addr} {o : HO} (x : ObjOk P w H h a o) : ∃ u, h.get? a = some u := by
  cases o with
  | lst xs => obtain ⟨_, _, _, _, e⟩ := x; exact ⟨_, e⟩
  | tup xs => obtain ⟨_, _, _, _, e, _⟩ := x; exact ⟨_, e⟩
  | dK kvs => obtain ⟨_, _, _, _, o, _, _, e, _⟩ := x; exact ⟨_, e⟩
  | dT kvs => obtain ⟨_, _, _, _, o, _, _, e, _⟩ := x; exact ⟨_, e⟩
  | set S n => obtain ⟨o, _, _, _, e, _⟩ := x; exact ⟨_, e⟩
  | ins C dx fs => obtain ⟨_, _, _, e, _⟩ := x; exact ⟨_, e⟩
  | own y => exact x
  | xd fs => obtain ⟨_, ⟨_, _, _, e, _⟩, _⟩ := x; exact ⟨_, e⟩
  | rng lo hi => obtain ⟨_, _, _, e⟩ := x; exact ⟨_, e⟩
  | frz ob u => obtain ⟨e, _⟩ := x; exact ⟨_, e⟩
  | tbl ps => exact ⟨_, (show h.get? a = some _ from x)⟩
  | met f y => exact ⟨_, (show h.get? a = some _ from x)⟩
  | ext φ => obtain ⟨_, e, _⟩ := x; exact e
theorem HOk.over {P : Program} {w : World} {H : Hp} {h h' B : Heap} (x : HOk P w H h) (t : ∀ b u, H b = some u → ∃ o, B.get? b = some o) (k : B.StaysIn h) (k' : B.StaysIn h') : HOk P w H h' := fun a o e =>
  (x a o e).stay (fun b u hb q => by
    have hz : ∃ ob, B.get? b = some ob := by
      rcases hb with z | z
      · rw [z]; exact t _ _ e
      · exact t _ _ z
    obtain ⟨ob, ho⟩ := hz
    have := k b ob ho
    rw [q] at this
    cases this
    exact k' b _ ho) (fun _ q => q) fun _ _ q => q
/-- the exception a of the class cls is behind a call at s, H; B: all that stands apart from it and from the frames l -/
structure Fl (P : Program) (w : World) (l : List Env) (H : Hp) (s : Shared) (a : Addr) (cls : Value) (H' : Hp) (B : Heap) (s' : Shared) : Prop where
  os : s'.os = s.os
  bare : AllBare s'.gens
  un : Un (frs l) [] H H' s.heap s'.heap
  hok : HOk P w H' s'.heap
  fl : ∃ a0, Heap.FlyingW B l a cls a0 s'.heap
  cov : ∀ b o, s.heap.get? b = some o → H b = none → b ∉ frs l → B.get? b = some o
  ex : ∀ b o, s.heap.get? b = some o → b ∉ frs l → ∃ o', B.get? b = some o'
  trk : ∀ b u, H' b = some u → ∃ o, B.get? b = some o
/-- the same exception, its traceback turned -/
theorem Fl.again {P : Program} {w : World} {l : List Env} {H : Hp} {s : Shared} {a : Addr} {cls a0 : Value} {H' : Hp} {B : Heap} {s' : Shared} {h6 : Heap} (F : Fl P w l H s a cls H' B s') (f6 : Heap.FlyingW B l a cls a0 h6) (sm : s'.heap.UpToSlots h6) :
    Fl P w l H s a cls H' B { s' with heap := h6 } := by
  obtain ⟨a1, f1⟩ := F.fl
  refine ⟨F.os, F.bare, ⟨fun b o e n hb _ => f6.1 b o (F.cov b o e n hb), fun b o e n hb hx => ?_, F.un.free, fun b o e hx => ?_, F.un.tups, F.un.frzs, F.un.tbls⟩, F.hok.over F.trk f1.1 f6.1, ⟨a0, f6⟩, F.cov, F.ex, F.trk⟩
  · obtain ⟨sl, e1⟩ := F.un.slot b o e n hb hx
    obtain ⟨_, o', e2, nf⟩ := f1.2.2.1.mem hb
    rw [e1] at e2
    cases e2
    obtain ⟨sl2, e3⟩ := sm b _ e1 nf
    exact ⟨sl2, e3⟩
  · by_cases hb : b ∈ frs l
    · obtain ⟨_, o', e2, _⟩ := f6.2.2.1.mem hb
      exact ⟨o', e2⟩
    · obtain ⟨o', e2⟩ := F.ex b o e hb
      exact ⟨o', f6.1 b o' e2⟩
section
variable {X : Cx} {pins : List (Addr × Obj)} {σ : St} {H H' : Hp} {s s' s1 : Shared} {a : Addr} {cls a0 : Value} {B h6 : Heap} {vs : List Value}
/-- behind the call, in the caller -/
theorem Inv.flown (I : Inv X pins σ H s) (F : Fl X.prog X.w X.stack H s a cls H' B s') : Inv X pins σ H' s' := I.call' F.os F.un F.hok F.bare fun b z => absurd z (by simp)
theorem Inv.notL (I : Inv X pins σ H s) (hst : X.stack = X.env :: X.outer) (hf : X.env.frame = some X.env.locals) {b : Addr} {o : Obj} (e : X.s₀.heap.get? b = some o) (hb : b ∉ X.fs) : b ∉ frs X.stack := fun z => by
  rw [hst] at z
  unfold frs at z
  rw [List.filterMap_cons, hf] at z
  rcases List.mem_cons.mp z with z | z
  · exact absurd (Nat.lt_of_lt_of_le (Heap.lt_size e) I.ok.above) (by rw [z]; exact Nat.lt_irrefl _)
  · exact hb z
/-- the caller's frame is left too -/
theorem Fl.left (I : Inv X pins σ H s) (hst : X.stack = X.env :: X.outer) (hf : X.env.frame = some X.env.locals) (hex : X.ex = []) (F : Fl X.prog X.w X.stack H s a cls H' B s') (f6 : Heap.FlyingW B X.outer a cls a0 h6) (sm : s'.heap.UpToSlots h6) :
    Fl X.prog X.w X.outer X.H₀ X.s₀ a cls H' B { s' with heap := h6 } := by
  obtain ⟨a1, f1⟩ := F.fl
  have nx : ∀ b : Addr, b ∉ X.ex := fun b z => by rw [hex] at z; cases z
  have cov : ∀ b o, X.s₀.heap.get? b = some o → X.H₀ b = none → b ∉ X.fs → B.get? b = some o := fun b o e n hb =>
    F.cov b o (I.base.keep b o e n hb (nx b)) (I.base.free b o e n (nx b)) (I.notL hst hf e hb)
  have ex : ∀ b o, X.s₀.heap.get? b = some o → b ∉ X.fs → ∃ o', B.get? b = some o' := fun b o e hb => by
    obtain ⟨o1, e1⟩ := I.base.there b o e (nx b)
    exact F.ex b o1 e1 (I.notL hst hf e hb)
  refine ⟨F.os.trans I.os, F.bare, ⟨fun b o e n hb _ => f6.1 b o (cov b o e n hb), fun b o e n hb hx => ?_, fun b o e n hx => ?_, fun b o e hx => ?_, fun b xs e => F.un.tups b xs (I.base.tups b xs e), fun b o xs e => F.un.frzs b o xs (I.base.frzs b o xs e), fun b ps e => ?_⟩, F.hok.over F.trk f1.1 f6.1, ⟨a0, f6⟩, cov, ex, F.trk⟩
  · obtain ⟨sl, e1⟩ := I.base.slot b o e n hb (nx b)
    obtain ⟨sl2, e2⟩ := F.un.any e1 (I.base.free b o e n (nx b)) (by simp)
    obtain ⟨_, o', e3, nf⟩ := I.ok.funs.mem hb
    rw [e] at e3
    cases e3
    obtain ⟨sl3, e4⟩ := sm b _ e2 nf
    exact ⟨sl3, e4⟩
  · obtain ⟨o1, e1⟩ := I.base.there b o e (nx b)
    exact F.un.free b o1 e1 (I.base.free b o e n (nx b)) (by simp)
  · by_cases hb : b ∈ X.fs
    · obtain ⟨_, o', e2, _⟩ := f6.2.2.1.mem hb
      exact ⟨o', e2⟩
    · obtain ⟨o', e2⟩ := ex b o e hb
      exact ⟨o', f6.1 b o' e2⟩
  · obtain ⟨m1, e1⟩ := I.base.tbls b ps e
    obtain ⟨m2, e2⟩ := F.un.tbls b _ e1
    exact ⟨m1 ++ m2, by rw [e2, Array.append_assoc]⟩
/-- the exception was made here, the frame is left -/
theorem Fl.made (I : Inv X pins σ H s) (hst : X.stack = X.env :: X.outer) (hf : X.env.frame = some X.env.locals) (hex : X.ex = []) (hx : Heap.MadeExcOf s.heap s1.heap a cls vs) (hos : s1.os = s.os) (hg : s1.gens = s.gens)
    (f6 : Heap.FlyingW (PySem.W.hideAll s.heap (frs X.stack)) X.outer a cls a0 h6) (sm : s1.heap.UpToSlots h6) : Fl X.prog X.w X.outer X.H₀ X.s₀ a cls H (PySem.W.hideAll s.heap (frs X.stack)) { s1 with heap := h6 } := by
  have nx : ∀ b : Addr, b ∉ X.ex := fun b z => by rw [hex] at z; cases z
  have cov : ∀ b o, X.s₀.heap.get? b = some o → X.H₀ b = none → b ∉ X.fs → (PySem.W.hideAll s.heap (frs X.stack)).get? b = some o := fun b o e n hb => PySem.W.hideAll_get _ (I.base.keep b o e n hb (nx b)) (I.notL hst hf e hb)
  have ex : ∀ b o, X.s₀.heap.get? b = some o → b ∉ X.fs → ∃ o', (PySem.W.hideAll s.heap (frs X.stack)).get? b = some o' := fun b o e hb => by
    obtain ⟨o1, e1⟩ := I.base.there b o e (nx b)
    exact ⟨o1, PySem.W.hideAll_get _ e1 (I.notL hst hf e hb)⟩
  have trk : ∀ b u, H b = some u → ∃ o, (PySem.W.hideAll s.heap (frs X.stack)).get? b = some o := fun b u e => by
    obtain ⟨o, ho⟩ := (I.hok b u e).get
    refine ⟨o, PySem.W.hideAll_get _ ho fun z => ?_⟩
    rw [I.stkFree b z] at e
    cases e
  refine ⟨hos.trans I.os, by rw [hg]; exact I.bare, ⟨fun b o e n hb _ => f6.1 b o (cov b o e n hb), fun b o e n hb hx' => ?_, fun b o e n hx' => I.base.free b o e n (nx b), fun b o e hx' => ?_, I.base.tups, I.base.frzs, I.base.tbls⟩,
    I.hok.over trk (fun b o e => PySem.W.of_hideAll _ e) f6.1, ⟨a0, f6⟩, cov, ex, trk⟩
  · obtain ⟨sl, e1⟩ := I.base.slot b o e n hb (nx b)
    obtain ⟨_, o', e3, nf⟩ := I.ok.funs.mem hb
    rw [e] at e3
    cases e3
    obtain ⟨sl3, e4⟩ := sm b _ (hx.keeps _ _ e1) nf
    exact ⟨sl3, e4⟩
  · by_cases hb : b ∈ X.fs
    · obtain ⟨_, o', e2, _⟩ := f6.2.2.1.mem hb
      exact ⟨o', e2⟩
    · obtain ⟨o', e2⟩ := ex b o e hb
      exact ⟨o', f6.1 b o' e2⟩
end
/-- how an exception of the text's own lies behind a call -/
def CX1 (P : Program) (w : World) (K : PySem.W.Frag) : CXT := fun l H s E e s' => ∃ (a C : Addr) (H' : Hp) (B : Heap), e = .ref a ∧ ExcC K C ∧ Fl P w l H s a (.ref C) H' B s' ∧ E (.ref C) none H'
section
variable {P : Program} {w : World} {K : PySem.W.Frag} {mg : Str → Option Value} {base : Heap} {N : List Str} {qual : Str} {scope : Scope} {f : Addr} {cd : Value} {A : Around} {outer : List Env} {s₀ : Shared} {H₀ : Hp} {E : XK}
/-- a callee's exception leaves the def -/
theorem passX : Passes (CX1 P w K) (cxOf (CX1 P w K) P w K mg base N qual scope f cd A outer s₀ H₀ E) E := fun pins σ H s e s' I h => by
  obtain ⟨a, C, H', B, rfl, c, F, hE⟩ := h
  obtain ⟨a0, fl⟩ := id F.fl
  exact wpAny_leaves_onW (I.ok.frames) rfl fl fun h6 f6 sm => ⟨a, C, H', B, rfl, c, Fl.left I rfl rfl rfl F f6 sm, hE⟩
/-- what is raised here leaves the context as E wants -/
def Raises (X : Cx) (E : XK) : Prop := ∀ (pins : List (Addr × Obj)) (σ : St) (H : Hp) (s : Shared) (a C : Addr) (vs : List Value) (h' : Heap), ExcC X.K C → Inv X pins σ H s → Heap.MadeExcOf s.heap h' a (.ref C) vs → E (.ref C) none H → X.xe (.ref a) { s with heap := h' }
theorem raisesX : Raises (cxOf (CX1 P w K) P w K mg base N qual scope f cd A outer s₀ H₀ E) E := fun pins σ H s a C vs h' c I hx hE => by
  have hin : ∀ env ∈ (cxOf (CX1 P w K) P w K mg base N qual scope f cd A outer s₀ H₀ E).stack, ∀ b, env.frame = some b → b ∈ frs (cxOf (CX1 P w K) P w K mg base N qual scope f cd A outer s₀ H₀ E).stack := fun env he b hb => List.mem_filterMap.mpr ⟨env, he, hb⟩
  exact wpAny_leaves_madeW (h := s.heap) (base := PySem.W.hideAll s.heap (frs (cxOf (CX1 P w K) P w K mg base N qual scope f cd A outer s₀ H₀ E).stack)) (I.ok.frames) rfl (fun b o q => PySem.W.of_hideAll _ q) (PySem.W.funFrames_hide I.stack hin) hx
    fun h6 t f6 _ _ sm => ⟨a, C, H, _, rfl, c, Fl.made (s1 := { s with heap := h' }) I rfl rfl rfl hx rfl rfl f6 sm, hE⟩
theorem ownX : PassesOwn (model (cxOf (CX1 P w K) P w K mg base N qual scope f cd A outer s₀ H₀ E).prog (cxOf (CX1 P w K) P w K mg base N qual scope f cd A outer s₀ H₀ E).w) (cxOf (CX1 P w K) P w K mg base N qual scope f cd A outer s₀ H₀ E).A (cxOf (CX1 P w K) P w K mg base N qual scope f cd A outer s₀ H₀ E).env (cxOf (CX1 P w K) P w K mg base N qual scope f cd A outer s₀ H₀ E).xe :=
  fun _ _ h => wpAny_leaving_again (SameStack.refl _) h
end
/-! ### raise -/
def tRaise (C : Addr) (E : XK) (t : TA) : TS := fun _ σ H => t σ H fun vs H1 => vs.length ≤ sizeLine ∧ E (.ref C) none H1
section
variable {X : Cx} {E : XK} {C : Addr} {x : Str} {np cpos pos : Pos} {e : Expr} {es : List Expr} {t : TA}
theorem ps_raise (hX : Raises X E) (hcalm : X.calm = true) (hg : Gl X x) (hm : X.mg x = some (.ref C)) (c : ExcC X.K C) (ha : PA X (e :: es) t) (hdb : (x == ("__debug__" : Str)) = false := by decide)
    (he : starEach (e :: es) X.env = (false, eval e X.env) :: starEach es X.env := by rfl) (hpl : (backTo cpos (starEach es X.env)).any (·.1) = false := by rfl) :
    PS X (.Raise (some (.Call (.Name x np) (e :: es) [] cpos)) none pos) (tRaise C E t) := by
  intro pins s σ H D I h
  obtain ⟨bm, N, nm, q, bs, hdct, sn, sub, ab, col, dd, k0, k1, k2, k3, k5, mN, hC, hN, hni, T, hmr⟩ := c.obj I.mod.kin
  refine wpAny_Raise_call_subT (C := C) (nm := nm) (q := q) (N := N) (bs := bs) (bm := bm) (hdct := hdct) (sn := sn) (sub := sub) (ab := ab) (col := col) (dd := dd) (k0 := k0) (k1 := k1) (k2 := k2) (k3 := k3) (k5 := k5)
    PySem.F.excBase_ValueError (mN := mN) (T.hasType PySem.F.excBase_ValueError.hasBase) (I.ok.hd hcalm) (by rw [he]; show (false || (backTo cpos (starEach es X.env)).any (·.1)) = false; rw [hpl]; rfl) hni (ld_glob I hg hm ⟨rfl, ?_⟩ hdb)
  have h2 := ha cpos pins s σ H _ I h
  rw [he] at h2 ⊢
  refine Calls.evalArgs_plain (wpAny_mono h2 (fun us s2 z => ?_) fun _ _ y => y)
  obtain ⟨vs, H1, I1, r, z1, z2⟩ := z
  exact ⟨rfl, by rw [← r.length]; exact z1, I1.bk _ _ hC, hN.keeps I1.bk, T.keeps I1.bk, fun h' e' hm' => hX pins σ H1 s2 e' C us h' c I1 hm' z2⟩
end
/-! ### try -/
/-- a try's body: its own wish about exceptions, the pins kept -/
abbrev Cx.tr (X : Cx) (E : Value → Shared → Prop) (ps : List (Addr × Obj)) : Cx := { X with xe := E, pn := ps }
/-- an except suite: an exception is at hand -/
abbrev Cx.hd (X : Cx) (v : Value) : Cx := { X with A := X.A.mark (some v), calm := false, xe := fun _ _ => False }
section
variable {X : Cx} {pins ps : List (Addr × Obj)} {σ : St} {H : Hp} {s : Shared} {E : Value → Shared → Prop} {v : Value}
theorem Inv.tr (I : Inv X pins σ H s) (E : Value → Shared → Prop) : Inv (X.tr E (X.pn ++ pins)) [] σ H s :=
  ⟨⟨I.ok.mod, I.ok.kind, I.ok.glob, I.ok.blt, I.ok.above, I.ok.inj, I.ok.has, I.ok.cab, I.ok.hd, I.ok.frames, I.ok.stk, I.ok.exf, I.ok.bs, I.ok.bsz, I.ok.noex, I.ok.exfs, I.ok.funs, I.ok.frf⟩, I.os, I.bare, I.base, I.loc, I.cell, I.free, I.freeC,
    fun p hp => I.pin p (by rw [List.append_nil] at hp; exact hp), I.hok, I.len⟩
theorem Inv.untr (I : Inv (X.tr E (X.pn ++ pins)) ps σ H s) : Inv X pins σ H s :=
  ⟨⟨I.ok.mod, I.ok.kind, I.ok.glob, I.ok.blt, I.ok.above, I.ok.inj, I.ok.has, I.ok.cab, I.ok.hd, I.ok.frames, I.ok.stk, I.ok.exf, I.ok.bs, I.ok.bsz, I.ok.noex, I.ok.exfs, I.ok.funs, I.ok.frf⟩, I.os, I.bare, I.base, I.loc, I.cell, I.free, I.freeC,
    fun p hp => I.pin p (List.mem_append_left _ hp), I.hok, I.len⟩
theorem SP.untr {D : Ends} {f : Flow} {s' : Shared} (h : SP (X.tr E (X.pn ++ pins)) ps D f s') : SP X pins D f s' := by
  cases f with
  | next => obtain ⟨σ', H', I, q⟩ := h; exact ⟨σ', H', I.untr, q⟩
  | brk => obtain ⟨σ', H', I, q⟩ := h; exact ⟨σ', H', I.untr, q⟩
  | cont => obtain ⟨σ', H', I, q⟩ := h; exact ⟨σ', H', I.untr, q⟩
  | ret u => obtain ⟨v, σ', H', I, r, q⟩ := h; exact ⟨v, σ', H', I.untr, r, q⟩
theorem Inv.hd (I : Inv X pins σ H s) (v : Value) : Inv (X.hd v) pins σ H s :=
  ⟨⟨I.ok.mod, I.ok.kind, I.ok.glob, I.ok.blt, I.ok.above, I.ok.inj, I.ok.has, I.ok.cab, fun z => (by cases z), I.ok.frames, I.ok.stk, I.ok.exf, I.ok.bs, I.ok.bsz, I.ok.noex, I.ok.exfs, I.ok.funs, I.ok.frf⟩, I.os, I.bare, I.base, I.loc, I.cell, I.free, I.freeC, I.pin, I.hok, I.len⟩
theorem Inv.unhd (ok : X.Ok) (I : Inv (X.hd v) pins σ H s) : Inv X pins σ H s :=
  ⟨ok, I.os, I.bare, I.base, I.loc, I.cell, I.free, I.freeC, I.pin, I.hok, I.len⟩
theorem SP.unhd (ok : X.Ok) {D : Ends} {f : Flow} {s' : Shared} (h : SP (X.hd v) pins D f s') : SP X pins D f s' := by
  cases f with
  | next => obtain ⟨σ', H', I, q⟩ := h; exact ⟨σ', H', I.unhd ok, q⟩
  | brk => obtain ⟨σ', H', I, q⟩ := h; exact ⟨σ', H', I.unhd ok, q⟩
  | cont => obtain ⟨σ', H', I, q⟩ := h; exact ⟨σ', H', I.unhd ok, q⟩
  | ret u => obtain ⟨v, σ', H', I, r, q⟩ := h; exact ⟨v, σ', H', I.unhd ok, r, q⟩
end
/-- the clauses' reading, by the exception's class -/
def PH (X : Cx) (hs : List ExceptHandler) (th : Value → TS) : Prop :=
  ∀ (pins : List (Addr × Obj)) (sc : Shared) (σ : St) (Hc : Hp) (D : Ends) (a C : Addr) (H : Hp) (B : Heap) (s : Shared), Inv X pins σ Hc sc → ExcC X.K C → Fl X.prog X.w X.stack Hc sc a (.ref C) H B s → th (.ref C) D σ H →
    wpAny (model X.prog X.w) X.A (handleBy (.ref a) X.env hs) (SP X pins D) X.xe s
def tH (K : PySem.W.Frag) (C' : Addr) (ts : TS) (tr : Value → TS) : Value → TS := fun cls D σ H => ∃ C, cls = .ref C ∧ ((PySem.W.mroIn K C (.ref C') = some true ∧ ts D σ H) ∨ (PySem.W.mroIn K C (.ref C') = some false ∧ tr cls D σ H))
def tH0 : Value → TS := fun _ _ _ _ => False
section
variable {X : Cx} {C' : Addr} {x : Str} {np pos : Pos} {b₀ : Stmt} {suite body : List Stmt} {rest hs : List ExceptHandler} {h0 : ExceptHandler} {ts : TS} {tr th : Value → TS} {tb : XK → TS}
theorem ph_nil : PH X [] tH0 := fun _ _ _ _ _ _ _ _ _ _ _ _ _ h => h.elim
theorem ph_cons (hg : Gl X x) (hm : X.mg x = some (.ref C')) (c' : ExcC X.K C') (hs : ∀ v, PSs (X.hd v) (b₀ :: suite) ts) (hr : PH X rest tr) (hdb : (x == ("__debug__" : Str)) = false := by decide) :
    PH X (.ExceptHandler (some (.Name x np)) none (b₀ :: suite) pos :: rest) (tH X.K C' ts tr) := by
  intro pins sc σ Hc D a C H B s I c F h
  obtain ⟨C0, e0, h⟩ := h
  cases e0
  have I1 := I.flown F
  obtain ⟨a0, fl⟩ := id F.fl
  obtain ⟨ob, hob, hobc⟩ := fl.there
  refine wpAny_handleBy_cons (codeAny_handlers_test (ld_glob (I1.hd (.ref a)) hg hm ?_ hdb)) (by intro q; cases q)
  obtain ⟨hp, g, d, tk, os⟩ := s
  rcases h with ⟨hm2, h⟩ | ⟨hm2, h⟩
  · refine excMatches_own (X := I1.kIn) c c' hob hobc hm2 (codeAny_handlers_suite (lands_againW fl fun h6 f6 sm => ?_))
    have F6 := F.again f6 sm
    have I6 := I.flown F6
    exact wpAny_mono (hs (.ref a) pins _ σ H D (I6.hd _) h) (fun f s2 q => q.unhd I.ok) fun _ _ z => False.elim z
  · exact excMatches_own (X := I1.kIn) c c' hob hobc hm2 (hr pins sc σ Hc D a C H B _ I c F h)
def tTryX (tb : XK → TS) (th : Value → TS) : TS := fun D σ H => tb (fun cls _ H' => ∀ σ' : St, σ'.length = σ.length → th cls D σ' H') D σ H
theorem ps_tryX (hst : X.stack = X.env :: X.outer) (hf : X.env.frame = some X.env.locals) (hb : ∀ (E1 : XK) (xe : Value → Shared → Prop) (ps : List (Addr × Obj)), Passes (CX1 X.prog X.w X.K) (X.tr xe ps) E1 → PSs (X.tr xe ps) body (tb E1)) (hh : PH X (h0 :: hs) th) :
    PS X (.Try body (h0 :: hs) [] [] pos) (tTryX tb th) := by
  intro pins s σ H D I h
  refine wpAny_Try_except ?_
  have P1 : Passes (CX1 X.prog X.w X.K) (X.tr (fun e s₁ => wpAny (model X.prog X.w) X.A (noteFrame e X.env) (fun _ s₂ => wpAny (model X.prog X.w) X.A (setFlight e none) (fun _ s₃ => wpAny (model X.prog X.w) X.A (handleBy e X.env (h0 :: hs)) (SP X pins D) X.xe s₃) X.xe s₂) X.xe s₁) (X.pn ++ pins))
      (fun cls _ H' => ∀ σ' : St, σ'.length = σ.length → th cls D σ' H') := fun ps1 σ1 H1 s1 e s2 I1 hc => by
    obtain ⟨a, C, H2, B, rfl, c, F, hE⟩ := hc
    have I2 := I1.untr
    obtain ⟨a0, fl⟩ := id F.fl
    have fl' : Heap.FlyingW B (X.env :: X.outer) a (.ref C) a0 s2.heap := hst ▸ fl
    refine wpAny_looks_onW (I.ok.frames.trans (congrArg some hst)) hf fl' fun h4 held4 sm4 => ?_
    refine wpAny_landsW held4 fun h5 f5 sm5 => ?_
    exact hh pins s1 σ1 H1 D a C H2 B _ I2 c (F.again (hst.symm ▸ f5) (sm4.trans sm5)) (hE σ1 (I2.len.trans I.len.symm))
  refine wpAny_mono (hb _ _ _ P1 [] s σ H D (I.tr _) h) (fun f s1 q => ?_) fun _ _ z => z
  have q' := q.untr
  cases f with
  | next =>
    obtain ⟨σ', H', I', q2⟩ := q'
    exact (L2.pss_nil (X := X)) pins s1 σ' H' D I' q2
  | brk => exact q'
  | cont => exact q'
  | ret u => exact q'
end
end L2

set_option autoImplicit false
set_option maxRecDepth 100000
set_option linter.all false
set_option Elab.async false
/-! Texts: f-strings, split, a text's signs. -/
namespace L2
open PySem PySem.Spec PyProof.Rows
/-! ### f-strings -/
abbrev TJ := Str → St → Hp → VK → Prop
def PJ (X : Cx) (es : List Expr) (t : TJ) : Prop :=
  ∀ (pins : List (Addr × Obj)) (s : Shared) (σ : St) (H : Hp) (out : Str) (Q : VK), Inv X pins σ H s → t out σ H Q → wpAny (model X.prog X.w) X.A (joinParts out (evalEach es X.env)) (EP X pins σ Q) X.xe s
def tJ0 : TJ := fun out _ H Q => out.length ≤ sizeLine ∧ Q (.str out) H
def tJs (y : Str) (t : TJ) : TJ := fun out σ H Q => (out ++ y).length ≤ sizeLine ∧ t (out ++ y) σ H Q
def tJi (te : TE) (t : TJ) : TJ := fun out σ H Q => te σ H fun x H1 => ∃ i : Int, x = .int i ∧ i.natAbs.log2 < 1920 ∧ (out ++ Str.ofString (toString i)).length ≤ sizeLine ∧ t (out ++ Str.ofString (toString i)) σ H1 Q
def tJr (te : TE) (t : TJ) : TJ := fun out σ H Q => te σ H fun x H1 => ∃ z : Str, x = .str z ∧ (reprText z).length ≤ sizeLine ∧ (out ++ reprText z).length ≤ sizeLine ∧ t (out ++ reprText z) σ H1 Q
def tJoin (t : TJ) : TE := fun σ H Q => t Str.empty σ H Q
section
variable {X : Cx} {es : List Expr} {t : TJ} {e v₁ v₂ : Expr} {te : TE} {pos pos' : Pos} {y : Str}
theorem pj_nil : PJ X [] tJ0 := fun pins s σ H out Q I h => joinParts_nil ⟨.str out, H, I.tok _, ⟨_, rfl⟩, h.2⟩ h.1
theorem pj_str {j} (h : PJ X es t) : PJ X (.Constant (.str y) j pos :: es) (tJs y t) := fun pins s σ H out Q I q =>
  joinParts_cons (Calls.Constant_str ⟨q.1, h pins _ σ H _ Q (I.tok _) q.2⟩)
theorem pj_int (he : PE X e te) (h : PJ X es t) : PJ X (.FormattedValue e (-1) none pos :: es) (tJi te t) := fun pins s σ H out Q I q =>
  joinParts_cons (FormattedValue_plain (thnE (he pins s σ H _ I q) fun u s1 x H1 I1 r q1 => by
    obtain ⟨i, rfl, hl, z, q1⟩ := q1
    obtain ⟨t', rfl⟩ := r
    exact formatField_int_small hl ⟨z, h pins _ σ H1 _ Q (I1.tok _) q1⟩))
theorem pj_repr (he : PE X e te) (h : PJ X es t) : PJ X (.FormattedValue e 114 none pos :: es) (tJr te t) := fun pins s σ H out Q I q =>
  joinParts_cons (wpAny_FormattedValue_repr (thnE (he pins s σ H _ I q) fun u s1 x H1 I1 r q1 => by
    obtain ⟨z, rfl, hl, hz, q1⟩ := q1
    obtain ⟨t', rfl⟩ := r
    exact pyReprObj_str (formatField_str (fun t2 tk => ⟨hz, h pins _ σ H1 _ Q (I1.tok _) q1⟩) hl) hl))
theorem pe_join (h : PJ X (v₁ :: v₂ :: es) t) : PE X (.JoinedStr (v₁ :: v₂ :: es) pos) (tJoin t) := fun pins s σ H Q I q => JoinedStr_many (h pins s σ H _ Q I q)
end
/-! ### split -/
theorem ns_one {h : Heap} {a : Addr} {m m' : Str → Option Value} (x : h.Ns a m) (y : h.Ns a m') : m = m' := by
  obtain ⟨o, es, ep, ho, hd, _, hf⟩ := x
  obtain ⟨o', es', ep', ho', hd', _, hf'⟩ := y
  rw [ho] at ho'
  cases ho'
  rw [hd] at hd'
  cases hd'
  funext z
  rw [← hf, ← hf']
/-- a list was made, whatever else beside it -/
theorem Inv.madeL {X : Cx} {pins : List (Addr × Obj)} {σ : St} {H : Hp} {s : Shared} {h' : Heap} {k n : Nat} {m : Str → Option Value} {xs : List V} {its : List Value} (I : Inv X pins σ H s) (hm : s.heap.Ns X.env.locals m) (F : Fr X.base X.env.locals h' m)
    (N : News X.base X.env.locals h' ((s.heap.objs.size, { cls := .type "list", data := .seq its.toArray n }) :: allNews X.base s.heap X.env.locals)) (r : Vals xs its) (hz : xs.length ≤ sizeLine) : Inv X pins σ (upd H s.heap.objs.size (.lst xs)) { s with heap := h', toks := k } := by
  have keep : ∀ b o, b ≠ X.env.locals → s.heap.get? b = some o → h'.get? b = some o := fun b o hb e => by
    cases q : X.base.get? b with
    | some u =>
      have := I.bk b u q
      rw [e] at this
      cases this
      exact F.keep b _ q
    | none => exact (N (b, o) (List.mem_cons_of_mem _ (mem_allNews hb q e))).1
  have hnew := (N _ List.mem_cons_self).1
  have hfr : H s.heap.objs.size = none := I.hok.fresh (Nat.le_refl _)
  have nD : ∀ b o, s.heap.get? b = some o → b ≠ s.heap.objs.size := fun b o e => Nat.ne_of_lt (Heap.lt_size e)
  have trkne : ∀ b u, H b = some u → b ≠ s.heap.objs.size := fun b u e z => by rw [z, hfr] at e; cases e
  refine I.step (g' := s.gens) (d' := s.drawn) (ch := []) (fun _ z => nomatch z) (fun b o hb _ _ e _ => keep b o hb e) (fun b o hb _ _ e _ => ⟨o.slots, keep b o hb e⟩) (fun b o _ e n => by rw [upd_ne (nD b o e)]; exact n) (fun b o _ e => ?_)
    (fun b ys e => by rw [upd_ne (trkne _ _ e)]; exact e) (fun b o u e => by rw [upd_ne (trkne _ _ e)]; exact e) (fun b ps e => ⟨#[], by rw [upd_ne (trkne _ _ e), e]; simp⟩) (fun m' hm' => by rw [ns_one hm' hm]; exact F.ns) (fun b u e => ?_) I.bare
  · by_cases hb : b = X.env.locals
    · subst hb
      obtain ⟨o', _, _, ho', _⟩ := F.ns
      exact ⟨o', ho'⟩
    · exact ⟨o, keep b o hb e⟩
  · by_cases hb : b = s.heap.objs.size
    · subst hb
      rw [upd_same] at e
      cases e
      exact ⟨hz, its, _, r, hnew⟩
    · rw [upd_ne hb] at e
      have nL : ∀ c w', H c = some w' → c ≠ X.env.locals := fun c w' q z => by rw [z, I.free] at q; cases q
      refine (I.hok b u e).stay (fun c w' hc q => ?_) (fun c q => by rw [upd_ne (trkne _ _ q)]; exact q) fun c ys q => by rw [upd_ne (trkne _ _ q)]; exact q
      rcases hc with z | z
      · rw [z] at q ⊢
        exact keep b w' (nL b u e) q
      · exact keep c w' (nL c _ z) q
def rSplit : V → List V → Hp → VK → Prop := fun x vs H Q => ∃ z y : Str, x = .str z ∧ vs = [.str y] ∧ (y.length == 0) = false ∧ z.length + 2 ≤ 1000 ∧ (Txt.split z y).length ≤ 1000 ∧ ∀ l, H l = none → Q (.ref l) (upd H l (.lst ((Txt.split z y).map V.str)))
theorem vals_strs : ∀ {l : List (Str × Tok)} {xs : List Str}, l.map (·.1) = xs → Vals (xs.map V.str) (strValues l)
  | [], _, e => by subst e; exact .nil
  | (a, t) :: r, _, e => by subst e; exact .cons ⟨t, rfl⟩ (vals_strs rfl)
theorem mt_split {X : Cx} : MtR X "str.split" rSplit := by
  intro pins s σ H x vs v us Q I rx rv h
  obtain ⟨z, y, rfl, rfl, hy, hl, hl2, q⟩ := h
  obtain ⟨t, rfl⟩ := rx
  obtain ⟨u, rfl, ru⟩ := vals1 rv
  obtain ⟨t', rfl⟩ := ru
  obtain ⟨m, hm, _⟩ := id I.loc
  have h1000 : 1000 ≤ sizeLine := by decide
  refine splitN1A (h₀ := X.base) (L := X.env.locals) (m := m) ⟨hm, I.bk, Nat.le_trans I.ok.bsz I.ok.above⟩ (news_all (g := X.base) (h := s.heap)) hy (fun l h' k e _ _ _ F N => ?_) (by omega)
  exact ⟨.ref s.heap.objs.size, _, I.madeL hm F N (vals_strs e) (by rw [List.length_map]; omega), rfl, q _ (I.hok.fresh (Nat.le_refl _))⟩
/-! ### a text's signs -/
def Its (z : Str) : It := ⟨fun i _ => i < z.cps.size, fun i H x H' => H' = H ∧ ∃ c, z.cps[i]? = some c ∧ x = .str ⟨#[c]⟩, fun i _ => z.cps.size ≤ i⟩
theorem turn_str {P : Program} {w : World} {K : PySem.W.Frag} {tg : Expr} (it : Addr) (z : Str) (t : Tok) : Turn P w K tg (Its z) [it] it (fun i h => h.IsStrIter it "str_ascii_iterator" z t i) where
  mem := by simp
  obj := fun i h st b hb => by
    have e : b = it := by simpa using hb
    subst e
    obtain ⟨o, e, c, d⟩ := st
    exact ⟨o, e, fun v z => by rw [d] at z; cases z⟩
  keep := fun i h h' st k => let ⟨o, e, r⟩ := st; ⟨o, k it (by simp) o e, r⟩
  item := by
    intro X hP hw hK hc i pins s σ H E I hf st hg
    subst hP hw hK
    obtain ⟨f0, f1, f2, f3, f4, f5⟩ := hf it (by simp)
    have hi : i < z.cps.size := hg
    refine wpAny_pyNext_ascii_item st (c := z.cps[i]) (by simp [hi]) fun h' st' sb => ?_
    have I1 : Inv X pins σ H { s with heap := h', toks := s.toks + 1 } := I.turned (fun b o hb e => (sb.2 b hb).trans e) f0 f1 f3 f4 f5
    obtain ⟨o, e, c, d⟩ := id st'
    exact ⟨_, rfl, go_of (s := { s with heap := h', toks := s.toks + 1 }) e c d (by decide) ⟨.str ⟨#[z.cps[i]]⟩, H, I1, ⟨_, rfl⟩, ⟨rfl, _, by simp [hi], rfl⟩, st', fun b hb => (hf b hb).1⟩⟩
  done := by
    intro X hP hw hK hc i pins s σ H E I hf st hg
    subst hP hw hK
    obtain ⟨f0, f1, f2, f3, f4, f5⟩ := hf it (by simp)
    have hi : z.cps.size ≤ i := hg
    exact wpAny_pyNext_ascii_end (I.ok.hd hc) st (by simp [hi]) fun h' eb => ⟨rfl, I.turned (t' := s.toks) (fun b o hb e => eb b o hb e) f0 f1 f3 f4 f5⟩
  self := fun _ _ _ _ _ st h => wpAny_pyIter_striter_ascii st h
def iStr (tl : TE) : TI := fun σ H R => tl σ H fun x H1 => ∃ z : Str, x = .str z ∧ z.cps.all (· < 128) = true ∧ R (Its z) H1
theorem pi_str {X : Cx} {tg l : Expr} {tl : TE} (hl : PE X l tl) : PI X tg l (iStr tl) := by
  intro pins s σ H R I h
  refine thnE (hl pins s σ H _ I h) fun v s1 x H1 I1 r1 q1 => ?_
  obtain ⟨z, rfl, ha, q⟩ := q1
  obtain ⟨t, rfl⟩ := r1
  refine wpAny_pyIter_ascii ha ?_
  refine ⟨s1.heap.objs.size, [s1.heap.objs.size], _, _, H1, rfl, I1.kept (t' := s1.toks) fun b o e => Heap.get?_push_of_some _ e, turn_str _ z t, ⟨_, Heap.get?_push_size _ rfl, rfl, rfl⟩, fun b hb => ?_, q⟩
  have e : b = s1.heap.objs.size := by simpa using hb
  subst e
  exact I1.fpOk (Nat.le_refl _) (I1.hok.fresh (Nat.le_refl _))
end L2

set_option autoImplicit false
set_option maxRecDepth 100000
set_option linter.all false
set_option Elab.async false
/-! isinstance of an exception; except .. as; all, count of bools; a text many times. -/
namespace L2
open PySem PySem.Spec PyProof.Rows
/-- the exception at a is of the class C -/
def ExcAt (a C : Addr) (h : Heap) : Prop := ∃ o, h.get? a = some o ∧ o.cls = .ref C
/-- an exception class that looks things up as all do -/
structure ExcK (K : PySem.W.Frag) (C : Addr) : Prop where
  c : ExcC K C
  ga : PySem.W.findIn K (.ref C) "__getattribute__" = some (some (.builtin "BaseException.__getattribute__"))
  gt : PySem.W.findIn K (.ref C) "__getattr__" = some none
  cl : PySem.W.findIn K (.ref C) "__class__" = some (some (.builtin "object.__class__"))
section
variable {prog : Program} {w : World} {A : Around} {E : Value → Shared → Prop} {h : Heap} {g : Array GenState} {d : Drawn} {t : Nat} {os : OsState} {a C : Addr} {o : Obj} {K : PySem.W.Frag}
theorem ga_bexc : Slot "ValueError" "__getattribute__" "BaseException.__getattribute__" := by first | exact PySem.F.slot_ValueError_getattribute | exact (PySem.F.excAttr_ValueError).ga
theorem class_get_exc {R : Result → Shared → Prop} (X : K.In h) (c : ExcK K C) (hx : h.get? a = some o) (hc : o.cls = .ref C) (hq : R (.ok (.ret (.ref C))) ⟨h, g, d, t, os⟩) :
    codeAny (model prog w) A (.call (.builtin "getset_descriptor.__get__") ⟨[.builtin "object.__class__", .ref a, .ref C], []⟩) R ⟨h, g, d, t, os⟩ := by
  obtain ⟨bm, N, nm, q, bs, hdct, sn, sub, ab, col, dd, k0, k1, k2, k3, k5, mN, hC, hN, hni, T, hmr⟩ := c.c.obj X
  have hT5 : (⟨h, g, d, t, os⟩ : Shared).TypeIs (.builtin "object.__class__") "getset_descriptor" := F.typeOf_object_class
  have hcB : (Value.ref C :: bm).contains (.type (".".intercalate ("object.__class__".cutAt '.').dropLast)) = true := by
    rw [F.owner_object_class, List.contains_cons, T.hasType (b := true) (by decide +kernel), Bool.or_true]
  refine codeAny_call_builtin F.slot_gs_get.plain F.entry_gs_get (F.slot_gs_get.check _ _ _ _ _ _ _ _ hT5 (F.args_gs_get _ _ _) ?_)
  repeat (any_goals (first | assumption | (with_reducible refine wpAny_loadPart_at hx ?_; rw [hc]) | (with_reducible refine wpAny_isSubtype_exc hC ?_; rw [hcB]) | wp_step))
  refine ⟨Code.quiet_builtin _ (by decide +kernel), codeAny_builtin F.entry_object_class ?_⟩
  repeat (any_goals (first | assumption | (with_reducible refine wpAny_loadPart_at hx ?_; rw [hc]) | wp_step))
theorem class_entry_exc {tk : Tok} {Q : Fin → Shared → Prop} (X : K.In h) (c : ExcK K C) (hx : h.get? a = some o) (hc : o.cls = .ref C) (hq : Q (.done (.ret (.ref C))) ⟨h, g, d, t, os⟩) :
    wpAny (model prog w) A (Builtin.«object.__getattribute__» ⟨[.ref a, .str "__class__" tk], []⟩) Q E ⟨h, g, d, t, os⟩ := by
  have hT5 : (⟨h, g, d, t, os⟩ : Shared).TypeIs (.builtin "object.__class__") "getset_descriptor" := F.typeOf_object_class
  have L3 := PySem.W.looks_findIn (M := model prog w) X c.cl
  have f5 := F.typeOf_object_class
  have f6 := F.slot_gs_get.lookup
  have f7 := F.slot_gs_set.lookup
  repeat (any_goals (first | assumption | (with_reducible refine wpAny_loadPart_at hx ?_; rw [hc]) | with_reducible refine L3.at ?_ | wp_step))
  refine class_get_exc X c hx hc ?_
  repeat (any_goals (first | assumption | wp_step))
theorem check_ga_exc {M : Model} {nameV : Value} {Q : Unit → Shared → Prop} (X : K.In h) (c : ExcK K C) (hx : h.get? a = some o) (hc : o.cls = .ref C) (hq : Q () ⟨h, g, d, t, os⟩) : wpAny M A (checkBuiltinCall "BaseException.__getattribute__" ⟨[.ref a, nameV], []⟩) Q E ⟨h, g, d, t, os⟩ := by
  obtain ⟨bm, N, nm, q, bs, hdct, sn, sub, ab, col, dd, k0, k1, k2, k3, k5, mN, hC, hN, hni, T, hmr⟩ := c.c.obj X
  have hk : builtinKind "BaseException.__getattribute__" = some .slot := by decide +kernel
  have hsplit : splitId "BaseException.__getattribute__" = some ("BaseException", "__getattribute__") := by decide +kernel
  have hcB : (Value.ref C :: bm).contains (.type "BaseException") = true := by rw [List.contains_cons, T.hasType (b := true) (by decide +kernel), Bool.or_true]
  have ha := F.args_bexc_ga (.ref a) nameV
  simp only [checkBuiltinCall, hk, hsplit]
  refine wpAny_bind ?_
  · unfold isInstance
    repeat (first | (with_reducible refine wpAny_loadPart_at hx ?_; rw [hc]) | (with_reducible refine wpAny_isSubtype_exc hC ?_; rw [hcB]) | wp_step)
    exact hq
theorem class_by_exc {tk : Tok} {fill expr : Bool} {Q : Value → Shared → Prop} (X : K.In h) (c : ExcK K C) (hx : h.get? a = some o) (hc : o.cls = .ref C) (hq : Q (.ref C) ⟨h, g, d, t, os⟩) :
    wpAny (model prog w) A (getAttrBy (.ref a) (.str "__class__" tk) fill expr) Q E ⟨h, g, d, t, os⟩ := by
  have f3 := ga_bexc.bind (.ref a)
  have hx0 : (expr && onTheHeap (Value.builtin "BaseException.__getattribute__")) = false := by cases expr <;> rfl
  have hx2 : (Value.builtin "BaseException.__getattribute__" == Value.builtin "object.__getattribute__") = false := by decide +kernel
  have hx1 : (onTheHeap (Value.ref C) && Value.builtin "BaseException.__getattribute__" == Value.builtin "object.__getattribute__") = false := by rw [hx2]; rfl
  have L1 := PySem.W.looks_findIn (M := model prog w) X c.ga
  have L2 := PySem.W.looks_findIn (M := model prog w) X c.gt
  repeat (any_goals (first | assumption | (with_reducible refine wpAny_loadPart_at hx ?_; rw [hc]) | with_reducible refine L1.at ?_ | with_reducible refine L2.at ?_ | wp_step))
  refine codeAny_call_builtin ga_bexc.plain F.entry_bexc_ga (check_ga_exc X c hx hc (class_entry_exc X c hx hc ?_))
  repeat (any_goals (first | assumption | wp_step))
theorem class_attr_exc {Q : Option Value → Shared → Prop} (X : K.In h) (c : ExcK K C) (hx : h.get? a = some o) (hc : o.cls = .ref C) (hq : Q (some (.ref C)) ⟨h, g, d, t + 1, os⟩) : wpAny (model prog w) A (getAttr? (.ref a) "__class__") Q E ⟨h, g, d, t, os⟩ := by
  unfold getAttr? getAttrBy?
  repeat (any_goals (first | assumption | with_reducible apply class_by_exc X c hx hc | wp_step))
theorem kitx_exc (c : ExcK K C) : PySem.W.KitX K (.ref a) (.ref C) (ExcAt a C) where
  ty := fun M h _ p => by
    obtain ⟨o, h1, h2⟩ := p
    exact h2 ▸ (PySem.W.Looks.ld h1).andThen .now
  it := fun _ h X _ => by
    obtain ⟨bm, N, nm, q, bs, hdct, sn, sub, ab, col, dd, k0, k1, k2, k3, k5, mN, hC, hN, hni, T, hmr⟩ := c.c.obj X
    intro A' Q' E' s' k q
    unfold isType loadHead
    exact wpAny_bind (wpAny_loadPart (k _ _ hC) (wpAny_pure q))
  ne := fun h tp dd its n sl X htp => by
    obtain ⟨bm, N, nm, q, bs, hdct, sn, sub, ab, col, dd, k0, k1, k2, k3, k5, mN, hC, hN, hni, T, hmr⟩ := c.c.obj X
    refine Bool.eq_false_iff.mpr fun q => ?_
    have e : C = tp := Value.ref.inj (beq_iff_eq.mp q)
    subst e
    have e : Value.type "type" = Value.type "tuple" := congrArg Obj.cls (Option.some.inj (hC.symm.trans htp))
    exact absurd (Value.type.inj e) (by decide)
  ca := fun {prog w A E Q s} X p k => by
    obtain ⟨o, h1, h2⟩ := p
    obtain ⟨h, g, d, t, os⟩ := s
    exact class_attr_exc X c h1 h2 k
end
/-- a class as the second argument -/
inductive ClsV : V → Value → Prop where
  | ty (n : String) : ClsV (.ty n) (.type n)
  | ref (D : Addr) : ClsV (.ref D) (.ref D)
section
variable {X : Cx}
def rIsE (K : PySem.W.Frag) : List V → Hp → VK → Prop := fun xs H Q => ∃ (a C : Addr) (y : V) (c : Value) (b : Bool), xs = [.ref a, y] ∧ ClsV y c ∧ H a = some (.ext (ExcAt a C)) ∧ ExcK K C ∧ PySem.W.kitOne K (.ref C) c = some b ∧ Q (.bl b) H
theorem call_isinstE : CallR X (.builtin "isinstance") (rIsE X.K) := by
  intro pins s σ H xs us Q I r h
  obtain ⟨a, C, y, c, b, rfl, hy, ha, hk, e, q⟩ := h
  obtain ⟨u, v, rfl, rx, rv⟩ := vals2 r
  cases rx
  have hv : v = c := by
    cases hy with
    | ty n => exact rv
    | ref D => exact rv
  subst hv
  obtain ⟨p, _, _⟩ := I.hok a _ ha
  exact PySem.W.kia_one (kitx_exc hk) I.kIn p e (fun z => nomatch z) fun tk => ⟨.bl b, H, I.tok tk, rfl, q⟩
/-! ### all -/
theorem call_allB (hc : X.calm = true) : CallR X (.builtin "all") (fun xs H Q => ∃ (a : Addr) (bs : List Bool), xs = [.ref a] ∧ H a = some (.lst (bs.map V.bl)) ∧ Q (.bl (bs.all id)) H) := by
  intro pins s σ H xs us Q I r h
  obtain ⟨a, bs, rfl, ha, q⟩ := h
  obtain ⟨u, rfl, ru⟩ := vals1 r
  cases ru
  obtain ⟨hz, its, n, rv, hl⟩ := I.hok a _ ha
  have e0 : its = bs.map Value.bool := by
    clear hz hl ha q
    induction bs generalizing its with
    | nil => cases rv; rfl
    | cons b bs ih =>
      cases rv with
      | cons r1 r2 =>
        cases r1
        rw [ih _ r2]
        rfl
  subst e0
  have hlist : s.heap.IsList a (bs.map Value.bool).toArray := ⟨_, hl, rfl, _, rfl⟩
  refine call_all_walk (wpAny_pyIter_list hlist ?_)
  have hne : a ≠ s.heap.objs.size := Nat.ne_of_lt (Heap.lt_size hl)
  refine ⟨s.heap.objs.size, _, _, _, _, _, fun i => bs.getD i true, rfl, Walks.list (A := X.A.in1) (show X.A.in1.handled = none from I.ok.hd hc) _ a hne (bs.map Value.bool).toArray, ⟨⟨_, Heap.get?_push_size _ rfl, rfl, rfl⟩, ⟨_, Heap.get?_push_of_some _ hl, rfl, _, rfl⟩⟩, fun i v s' Q' E' hP hQ => ?_, fun h' tk hk => ?_⟩
  · have e : (bs.map Value.bool)[i]? = some v := by simpa using hP
    rw [List.getElem?_map] at e
    cases e1 : bs[i]? with
    | none => rw [e1] at e; cases e
    | some b =>
      rw [e1] at e
      cases e
      have e2 : bs.getD i true = b := by rw [List.getD_eq_getElem?_getD, e1]; rfl
      have hQ' : Q' (bs.getD i true) s' := hQ
      rw [e2] at hQ'
      first | exact wpAny_truthy_bool hQ' | exact wpAny_pure hQ'
  · have e3 : (List.range (bs.map Value.bool).toArray.size).all (fun i => bs.getD i true) = bs.all id := by
      have : (List.range bs.length).map (fun i => bs.getD i true) = bs := by
        refine List.ext_getElem (by simp) fun i h1 h2 => ?_
        rw [List.getElem_map, List.getElem_range, List.getD_eq_getElem?_getD, List.getElem?_eq_getElem h2]
        rfl
      have e4 : (bs.map Value.bool).toArray.size = bs.length := by simp
      rw [e4]
      conv => rhs; rw [← this]
      rw [List.all_map]
      rfl
    rw [e3]
    refine ⟨.bl (bs.all id), H, ?_, rfl, q⟩
    exact I.kept fun b o e => hk b o (fun z => by
      have z' : b = s.heap.objs.size := by simpa using z
      exact absurd (Heap.lt_size e) (by rw [z']; exact Nat.lt_irrefl _)) (Heap.get?_push_of_some _ e)
/-! ### count of bools -/
def rCountB : V → List V → Hp → VK → Prop := fun x vs H Q => ∃ (a : Addr) (bs : List Bool) (k : Bool), x = .ref a ∧ vs = [.bl k] ∧ H a = some (.lst (bs.map V.bl)) ∧ Q (.int ((bs.countP (· == k) : Nat) : Int)) H
theorem mt_countB : MtR X "list.count" rCountB := by
  intro pins s σ H x vs v us Q I rx rv h
  obtain ⟨a, bs, k, rfl, rfl, ha, q⟩ := h
  cases rx
  obtain ⟨u, rfl, ru⟩ := vals1 rv
  cases ru
  obtain ⟨hz, its, n, rv, hl⟩ := I.hok a _ ha
  have e0 : its = bs.map Value.bool := by
    clear hz hl ha q
    induction bs generalizing its with
    | nil => cases rv; rfl
    | cons b bs ih =>
      cases rv with
      | cons r1 r2 =>
        cases r1
        rw [ih _ r2]
        rfl
  subst e0
  have hlist : s.heap.IsList a (bs.map Value.bool).toArray := ⟨_, hl, rfl, _, rfl⟩
  have hr : ∀ l : List Bool, ReadsAll s.heap (l.map Value.bool) (l.map PyData.bool) [] := fun l => by
    induction l with
    | nil => exact .nil
    | cons b l ih => exact .cons (.bool b) ih
  have hall : ∀ l : List Bool, (l.map PyData.bool).all Shape.bool.has = true := fun l => by
    induction l with
    | nil => rfl
    | cons b l ih => rw [List.map_cons, List.all_cons, ih]; rfl
  have hcnt : ∀ l : List Bool, countIn (.bool k) (l.map PyData.bool) = ((l.countP (· == k) : Nat) : Int) := fun l => by
    induction l with
    | nil => rfl
    | cons b l ih =>
      rw [List.map_cons, countIn, ih, List.countP_cons]
      cases b <;> cases k <;> simp [same] <;> omega
  refine count_list_bools hlist (hr bs) (hall bs) ⟨.int _, H, I.tok _, ⟨_, rfl⟩, ?_⟩
  rw [hcnt]
  exact q
/-! ### a text many times -/
def manyOf (z : Str) (k : Nat) : Str := ⟨List.foldl (fun x1 x2 => x1 ++ x2) #[] (List.replicate k z.cps)⟩
theorem op_mul_9 : OpR X (binaryOp .Mult) (fun x y H Q => x = .str "9" ∧ y = .int 30 ∧ Q (.str (manyOf "9" 30)) H) := by
  intro pins s σ H x y v u Q I rx ry h
  obtain ⟨rfl, rfl, q⟩ := h
  obtain ⟨t, rfl⟩ := rx
  obtain ⟨t', rfl⟩ := ry
  refine PySem.P.mul_str (by decide) (fun _ _ => by decide) (fun _ _ => by decide) ?_
  exact ⟨by decide +kernel, .str (manyOf "9" 30), H, I.tok _, ⟨_, rfl⟩, q⟩
end
end L2

set_option autoImplicit false
set_option maxRecDepth 100000
set_option linter.all false
set_option Elab.async false
/-! except .. as -/
namespace L2
open PySem PySem.Spec PyProof.Rows
section
variable {X : Cx} {pins : List (Addr × Obj)} {σ : St} {H : Hp} {s : Shared} {h' : Heap}
/-- a thing that was there is tracked from now on -/
theorem Inv.trackE {a : Addr} {o : HO} (I : Inv X pins σ H s) (hn : H a = none) (hL : a ≠ X.env.locals) (hc : ∀ x c, X.env.cells.lookup x = some c → c ≠ a) (hp : ∀ p ∈ X.pn ++ pins, p.1 ≠ a) (h0 : ∀ b ob, X.s₀.heap.get? b = some ob → b ∉ X.ex → b ≠ a)
    (new : ObjOk X.prog X.w (upd H a o) s.heap a o) : Inv X pins σ (upd H a o) s := by
  have ne : ∀ b u, H b = some u → b ≠ a := fun b u e => ne_of_none e hn
  refine ⟨I.ok, I.os, I.bare, ⟨I.base.keep, I.base.slot, fun b ob e n hx => by rw [upd_ne (h0 b ob e hx)]; exact I.base.free b ob e n hx, I.base.there, fun b xs e => ?_, fun b ob u e => ?_, fun b ps e => ?_⟩, I.loc, I.cell, by rw [upd_ne hL.symm]; exact I.free,
    fun x c e => by rw [upd_ne (hc x c e)]; exact I.freeC x c e, fun p q => ?_, fun b u e => ?_, I.len⟩
  · have := I.base.tups b xs e
    rw [upd_ne (ne _ _ this)]
    exact this
  · have := I.base.frzs b ob u e
    rw [upd_ne (ne _ _ this)]
    exact this
  · obtain ⟨m, this⟩ := I.base.tbls b ps e
    exact ⟨m, by rw [upd_ne (ne _ _ this)]; exact this⟩
  · obtain ⟨h1, h2, h3⟩ := I.pin p q
    exact ⟨h1, by rw [upd_ne (hp p q)]; exact h2, h3⟩
  · by_cases hb : b = a
    · subst hb
      rw [upd_same] at e
      cases e
      exact new
    · rw [upd_ne hb] at e
      exact (I.hok b u e).stay (fun c v _ q => q) (fun c q => by rw [upd_ne (ne _ _ q)]; exact q) fun c xs q => by rw [upd_ne (ne _ _ q)]; exact q
/-- the frame's names are forgotten -/
theorem Inv.gone {m' : Str → Option Value} {t' : Nat} (I : Inv X pins σ H s) (hn : h'.Ns X.env.locals m') (hs : Heap.SameBut X.env.locals s.heap h') : Inv X pins (List.replicate σ.length none) H { s with heap := h', toks := t' } := by
  have ne0 : ∀ b o, X.s₀.heap.get? b = some o → b ≠ X.env.locals := fun b o e => Nat.ne_of_lt (Nat.lt_of_lt_of_le (Heap.lt_size e) I.ok.above)
  have neH : ∀ b u, H b = some u → b ≠ X.env.locals := fun b u e => ne_of_none e I.free
  refine ⟨I.ok, I.os, I.bare, ⟨fun b o e n hb hx => (hs.2 b (ne0 b o e)).trans (I.base.keep b o e n hb hx), fun b o e n hb hx => ?_, I.base.free, fun b o e hx => ?_, I.base.tups, I.base.frzs, I.base.tbls⟩, ⟨m', hn, fun i x v e1 e2 e3 => ?_⟩, fun x c e => ?_, I.free, I.freeC, fun p q => ?_, fun b u e => ?_, ?_⟩
  · obtain ⟨sl, q⟩ := I.base.slot b o e n hb hx
    exact ⟨sl, (hs.2 b (ne0 b o e)).trans q⟩
  · obtain ⟨o', q⟩ := I.base.there b o e hx
    exact ⟨o', (hs.2 b (ne0 b o e)).trans q⟩
  · rw [List.getElem?_replicate] at e2
    split at e2
    · cases e2
    · cases e2
  · obtain ⟨v, o, ho, hd⟩ := I.cell x c e
    exact ⟨v, o, (hs.2 c (I.cne x c e)).trans ho, hd⟩
  · obtain ⟨h1, h2, h3, h4⟩ := I.pin p q
    exact ⟨(hs.2 p.1 h3).trans h1, h2, h3, h4⟩
  · refine (I.hok b u e).stay (fun c v hc q => (hs.2 c ?_).trans q) (fun _ q => q) fun _ _ q => q
    rcases hc with z | z
    · rw [z]; exact neH b u e
    · exact neH c _ z
  · rw [List.length_replicate]
    exact I.len
end
/-- the clause's reading: the exception is bound to the name i; the suite ends by a return -/
def tHA (K : PySem.W.Frag) (C' : Addr) (i : Nat) (ts : TS) (tr : Value → TS) : Value → TS := fun cls D σ H => ∃ C, cls = .ref C ∧
  ((PySem.W.mroIn K C (.ref C') = some true ∧ ∀ a, H a = none → ts { nx := fun _ _ => False, rt := D.rt } (σ.set i (some (.ref a))) (upd H a (.ext (ExcAt a C)))) ∨ (PySem.W.mroIn K C (.ref C') = some false ∧ tr cls D σ H))
section
variable {X : Cx} {C' : Addr} {x n : Str} {i : Nat} {np pos : Pos} {b₀ : Stmt} {suite : List Stmt} {rest : List ExceptHandler} {ts : TS} {tr : Value → TS}
theorem ph_consAs (hex : X.ex = []) (hN : X.N.Nodup) (hi : X.N[i]? = some n) (hx : X.env.kindOf n = some .local) (hg : Gl X x) (hm : X.mg x = some (.ref C')) (c' : ExcC X.K C') (hs : ∀ v, PSs (X.hd v) (b₀ :: suite) ts) (hr : PH X rest tr) (hdb : (x == ("__debug__" : Str)) = false := by decide) :
    PH X (.ExceptHandler (some (.Name x np)) (some n) (b₀ :: suite) pos :: rest) (tHA X.K C' i ts tr) := by
  intro pins sc σ Hc D a C H B s I c F h
  obtain ⟨C0, e0, h⟩ := h
  cases e0
  have I1 := I.flown F
  obtain ⟨a0, fl⟩ := id F.fl
  obtain ⟨ob, hob, hobc⟩ := fl.there
  refine wpAny_handleBy_cons (codeAny_handlers_test (ld_glob (I1.hd (.ref a)) hg hm ?_ hdb)) (by intro q; cases q)
  obtain ⟨hp, g, d, tk, os⟩ := s
  rcases h with ⟨hm2, h⟩ | ⟨hm2, h⟩
  · refine excMatches_own (X := I1.kIn) c c' hob hobc hm2 (codeAny_handlers_suite_as (lands_againW fl fun h6 f6 sm => ?_))
    have F6 := F.again f6 sm
    have I6 := I.flown F6
    obtain ⟨oe, vs, T, oT, tz, he, ⟨hcls, _⟩, hd, _⟩ := id f6.2.2.2
    have hHa : H a = none := by
      cases q : H a with
      | none => rfl
      | some u =>
        obtain ⟨o, ho⟩ := F.trk a u q
        rw [f6.2.1] at ho
        cases ho
    have nf : ∀ b o, h6.get? b = some o → (∀ vs, o.data ≠ .fields vs) → b ≠ a := fun b o e n z => by
      rw [z, he] at e
      cases e
      exact n _ hd
    have nB : ∀ b o, B.get? b = some o → b ≠ a := fun b o e z => by
      rw [z, f6.2.1] at e
      cases e
    have I7 : Inv X pins σ (upd H a (.ext (ExcAt a C))) _ := I6.trackE hHa
      (fun z => by
        obtain ⟨m, ⟨o, es, ep, ho, hdd, _⟩, _⟩ := I6.loc
        exact nf _ o ho (fun vs z => by rw [hdd] at z; cases z) z.symm)
      (fun y cc e => by
        obtain ⟨v, o, ho, hdd⟩ := I6.cell y cc e
        exact nf cc o ho fun vs z => by rw [hdd] at z; cases z)
      (fun p hp => by
        obtain ⟨h1, h2, h3, h4, _⟩ := I.pin p hp
        obtain ⟨o', ho'⟩ := F.ex p.1 _ h1 fun z => by
          rcases List.mem_cons.mp (I.stkSub _ z) with z | z
          · exact h3 z
          · exact h4 z
        exact nB _ _ ho')
      (fun b o e hx => by
        obtain ⟨o1, e1⟩ := I.base.there b o e hx
        by_cases hb : b ∈ frs X.stack
        · obtain ⟨_, o', e2, n⟩ := f6.2.2.1.mem hb
          exact nf b o' e2 n
        · obtain ⟨o', e2⟩ := F.ex b o1 e1 hb
          exact nB b o' e2)
      ⟨⟨oe, he, hcls⟩, ⟨oe, he⟩, fun h1 h2 z k => by
        obtain ⟨o, e1, e2⟩ := z
        exact ⟨o, k o e1, e2⟩⟩
    have hk : (X.hd (.ref a)).env.scope.names.lookup n = some .local := hx
    refine store_ok (X := X.hd (.ref a)) (v := .ref a) (I7.hd _) hN hi (.inl hk) rfl (fun s' I' => ?_) (.inr hk)
    refine wpAny_mono (hs (.ref a) pins _ _ _ _ I' (h a hHa)) (fun f s2 q => ?_) fun _ _ z => False.elim z
    cases f with
    | next => obtain ⟨_, _, _, q⟩ := q; exact False.elim q
    | brk => obtain ⟨_, _, _, q⟩ := q; exact False.elim q
    | cont => obtain ⟨_, _, _, q⟩ := q; exact False.elim q
    | ret u =>
      obtain ⟨v, σ', H', I2, r, q⟩ := q
      have I3 := I2.unhd I.ok
      obtain ⟨m, hns, _⟩ := I3.loc
      exact wpAny_nameGoes hx hns (by rw [I.ok.kind]; rfl) fun h7 m' hn' hs' => ⟨v, _, H', I3.gone hn' hs', r, q⟩
  · exact excMatches_own (X := I1.kIn) c c' hob hobc hm2 (hr pins sc σ Hc D a C H B _ I c F h)
end
/-! ### a comprehension over a text's signs -/
theorem comp_str {z : Str} {g : TG} {tif : TT} {te : TE} {p : Addr} {σ : St} {H : Hp} {Q : VK} (Pv : Nat → St → Hp → Prop) (h0 : Pv 0 σ H)
    (hs : ∀ i c σ H, z.cps[i]? = some c → Pv i σ H → g (.str ⟨#[c]⟩) σ H fun σ3 H3 => tif σ3 H3 fun b H4 => if b = true then te σ3 H4 fun v H5 => ∃ ys, H5 p = some (.lst ys) ∧ ys.length < sizeLine ∧ Pv (i + 1) σ3 (upd H5 p (.lst (ys ++ [v]))) else Pv (i + 1) σ3 H4)
    (hd : ∀ σ H, Pv z.cps.size σ H → Q (.ref p) H) : compW (Its z) g tif te p σ H Q := by
  refine ⟨fun i m σ H => m = z.cps.size - i ∧ i ≤ z.cps.size ∧ Pv i σ H, ⟨z.cps.size, by simp, Nat.zero_le _, h0⟩, ?_⟩
  rintro i m σ H ⟨rfl, hi, q⟩
  by_cases hlt : i < z.cps.size
  · refine .inr ⟨hlt, Pv (i + 1), fun σ' H' p' => ⟨z.cps.size - (i + 1), by omega, rfl, hlt, p'⟩, fun x H' y => ?_⟩
    obtain ⟨e, c, hc, y⟩ := y
    subst e y
    exact hs i c σ _ hc q
  · have e : i = z.cps.size := by omega
    subst e
    exact .inl ⟨Nat.le_refl _, hd σ H q⟩
/-! ### isinstance, by the classes' own lists -/
theorem ExcC.look {K : PySem.W.Frag} {C : Addr} (c : ExcC K C) : ∃ dd cd sl bm, K.lookup C = some ⟨.type "type", dd, .cls cd, sl⟩ ∧ cd.mro = .ref C :: bm := by
  have q := c.ex
  unfold PySem.W.excIn at q
  split at q
  · rename_i dd cd sl ho
    split at q
    · rename_i C' bm k0 k1 k2 k3 n k5 hm hs
      simp only [Bool.and_eq_true, beq_iff_eq, Bool.not_eq_true'] at q
      obtain ⟨⟨⟨⟨⟨rfl, _⟩, _⟩, _⟩, _⟩, _⟩ := q
      exact ⟨dd, cd, sl, bm, ho, hm⟩
    · cases q
  · cases q
theorem kit_exc {K : PySem.W.Frag} {C C' : Addr} {b : Bool} (c' : ExcC K C') (hm : PySem.W.mroIn K C (.ref C') = some b) : PySem.W.kitOne K (.ref C) (.ref C') = some b := by
  obtain ⟨dd, cd, sl, bm, ho, hmr⟩ := c'.look
  have hc : PySem.W.clsIn K C' = some cd := by
    unfold PySem.W.clsIn
    rw [ho]
  have ht : PySem.W.typeIn K (.ref C') = some (.type "type") := by
    show (K.lookup C').map (·.cls) = _
    rw [ho]
    rfl
  unfold PySem.W.kitOne
  by_cases e : C = C'
  · subst e
    rw [if_pos (by simp)]
    unfold PySem.W.mroIn at hm
    rw [hc] at hm
    rw [← hm]
    show _ = (if cd.mro.isEmpty = true then none else some (cd.mro.contains (.ref C)))
    rw [hmr]
    simp
  · rw [if_neg (fun z => e (Value.ref.inj (beq_iff_eq.mp z)))]
    show (if ((PySem.W.clsIn K C').isSome && PySem.W.typeIn K (.ref C') == some (.type "type")) = true then PySem.W.subIn K (.ref C) (.ref C') else none) = _
    rw [hc, ht, if_pos (by simp)]
    exact hm
theorem meta_ve : PySem.W.kitMeta "ValueError" = true := by first | decide +kernel | kernel_rfl
theorem kit_ve {K : PySem.W.Frag} {C : Addr} {b : Bool} (hm : PySem.W.mroIn K C (.type "ValueError") = some b) : PySem.W.kitOne K (.ref C) (.type "ValueError") = some b := by
  unfold PySem.W.kitOne
  rw [if_neg (fun z => by cases beq_iff_eq.mp z)]
  show (if PySem.W.kitMeta "ValueError" = true then PySem.W.subIn K (.ref C) (.type "ValueError") else none) = _
  rw [if_pos meta_ve]
  exact hm
end L2

set_option autoImplicit false
set_option maxRecDepth 100000
set_option linter.all false
set_option Elab.async false
/-! Lines of rows, as plain functions over texts. -/
namespace TX
open PySem PySem.NumText
abbrev cps (x : Str) : List Nat := x.cps.toList
theorem ext {x y : Str} (h : cps x = cps y) : x = y := by
  obtain ⟨⟨a⟩⟩ := x
  obtain ⟨⟨b⟩⟩ := y
  have h' : a = b := h
  rw [h']
theorem cps_app (x y : Str) : cps (x ++ y) = cps x ++ cps y := by
  show (x.cps ++ y.cps).toList = _
  simp [cps]
theorem len_cps (x : Str) : x.length = (cps x).length := by
  show x.cps.size = _
  simp [cps]
theorem len_app (x y : Str) : (x ++ y).length = x.length + y.length := by rw [len_cps, len_cps, len_cps, cps_app, List.length_append]
theorem nil_app (x : Str) : Str.empty ++ x = x := ext (by rw [cps_app]; rfl)
/-! ### numbers -/
abbrev num (n : Int) : Str := Str.ofString (toString n)
/-- figures, of which the first is no nought, but for nought itself -/
def isNumL : List Nat → Bool
  | [] => false
  | c :: r => !(c == 48 && !r.isEmpty) && (c :: r).all fun d => decide (48 ≤ d) && decide (d ≤ 57)
def isNum (w : Str) : Bool := isNumL (cps w)
def valOf (w : Str) : Int := ((digitsVal (cps w) : Nat) : Int)
theorem all_digits {l : List Nat} (h : (l.all fun d => decide (48 ≤ d) && decide (d ≤ 57)) = true) : AllDigits l := fun c hc => by
  have := List.all_eq_true.mp h c hc
  rw [Bool.and_eq_true, decide_eq_true_eq, decide_eq_true_eq] at this
  exact this
theorem digits_all {l : List Nat} (h : AllDigits l) : (l.all fun d => decide (48 ≤ d) && decide (d ≤ 57)) = true := List.all_eq_true.mpr fun c hc => by
  rw [Bool.and_eq_true, decide_eq_true_eq, decide_eq_true_eq]
  exact h c hc
theorem isNumL_digits {l : List Nat} (h : isNumL l = true) : AllDigits l ∧ l ≠ [] := by
  cases l with
  | nil => cases h
  | cons c r =>
    unfold isNumL at h
    rw [Bool.and_eq_true] at h
    exact ⟨all_digits h.2, fun e => by cases e⟩
theorem dig_lt : ∀ d : Nat, d < 10 → 48 ≤ (Nat.digitChar d).toNat ∧ (Nat.digitChar d).toNat ≤ 57 ∧ ((Nat.digitChar d).toNat = 48 → d = 0) := by decide
abbrev digs (m : Nat) : List Nat := (Nat.toDigits 10 m).map Char.toNat
theorem digs_small {m : Nat} (h : m < 10) : digs m = [(Nat.digitChar m).toNat] := by
  unfold digs
  rw [Nat.toDigits_of_lt_base h]
  rfl
theorem digs_snoc {m : Nat} (h : ¬ m < 10) : digs m = digs (m / 10) ++ [(Nat.digitChar (m % 10)).toNat] := by
  have hm : m % 10 < 10 := Nat.mod_lt m (by decide)
  have t : Nat.toDigits 10 (m / 10) ++ Nat.toDigits 10 (m % 10) = Nat.toDigits 10 (10 * (m / 10) + m % 10) := Nat.toDigits_append_toDigits (by decide) (by omega) hm
  rw [Nat.div_add_mod] at t
  unfold digs
  rw [← t, List.map_append, Nat.toDigits_of_lt_base hm]
  rfl
theorem digs_num (m : Nat) : isNumL (digs m) = true := by
  induction m using Nat.strongRecOn with
  | _ m ih =>
    by_cases h : m < 10
    · rw [digs_small h]
      obtain ⟨h1, h2, _⟩ := dig_lt m h
      simp [isNumL, h1, h2]
    · have ih' := ih (m / 10) (by omega)
      obtain ⟨h1, h2, _⟩ := dig_lt (m % 10) (Nat.mod_lt m (by decide))
      obtain ⟨ha, hne⟩ := isNumL_digits ih'
      have hv := PySem.W.KIN.val_back (m / 10)
      rw [digs_snoc h]
      cases e : digs (m / 10) with
      | nil => exact absurd e hne
      | cons c r =>
        rw [e] at ih' ha
        have hc : c ≠ 48 := fun hc => by
          subst hc
          cases r with
          | nil =>
            have : digitsVal (digs (m / 10)) = 0 := by rw [e]; rfl
            have hv' : digitsVal (digs (m / 10)) = m / 10 := hv
            omega
          | cons d r => simp [isNumL] at ih'
        show isNumL (c :: (r ++ [(Nat.digitChar (m % 10)).toNat])) = true
        unfold isNumL
        rw [Bool.and_eq_true]
        refine ⟨by simp [hc], digits_all fun d hd => ?_⟩
        rcases List.mem_cons.mp hd with rfl | hd
        · exact ha _ List.mem_cons_self
        · rcases List.mem_append.mp hd with hd | hd
          · exact ha _ (List.mem_cons_of_mem _ hd)
          · rw [List.mem_singleton.mp hd]
            exact ⟨h1, h2⟩
theorem digs_len : ∀ (k m : Nat), m < 10 ^ (k + 1) → (digs m).length ≤ k + 1
  | 0, m, h => by
    rw [digs_small (by omega)]
    exact Nat.le_refl _
  | k + 1, m, h => by
    by_cases hm : m < 10
    · rw [digs_small hm]
      exact Nat.succ_le_succ (Nat.zero_le _)
    · rw [digs_snoc hm, List.length_append]
      have := digs_len k (m / 10) (by rw [Nat.pow_succ] at h; omega)
      show (digs (m / 10)).length + 1 ≤ k + 1 + 1
      omega
theorem cps_num (m : Nat) : cps (num (m : Int)) = digs m := PySem.W.KIN.signs_num m
theorem num_isNum {n : Int} (h : 0 ≤ n) : isNum (num n) = true := by
  obtain ⟨m, rfl⟩ := Int.eq_ofNat_of_zero_le h
  unfold isNum
  rw [cps_num]
  exact digs_num m
theorem num_val {n : Int} (h : 0 ≤ n) : valOf (num n) = n := by
  obtain ⟨m, rfl⟩ := Int.eq_ofNat_of_zero_le h
  unfold valOf
  rw [cps_num, PySem.W.KIN.val_back]
theorem num_len {n : Int} (h : 0 ≤ n) (h1 : n < 10 ^ 25) : (num n).length ≤ 25 := by
  obtain ⟨m, rfl⟩ := Int.eq_ofNat_of_zero_le h
  rw [len_cps, cps_num]
  exact digs_len 24 m (by omega)
theorem num_log {n : Int} (h : 0 ≤ n) (h1 : n < 10 ^ 25) : n.natAbs.log2 < 1920 := by
  have h2 : n.natAbs < 2 ^ 100 := by
    have : (10 : Int) ^ 25 < 2 ^ 100 := by decide
    omega
  by_cases h0 : n.natAbs = 0
  · rw [h0]; decide
  · exact Nat.lt_trans ((Nat.log2_lt h0).mpr h2) (by decide)
theorem int_num {w : Str} (h : isNum w = true) (hl : w.length ≤ 640) : intText? w = some (valOf w) := by
  obtain ⟨h1, h2⟩ := isNumL_digits h
  exact intText_digits h1 h2 (by omega)
/-! ### words -/
abbrev bl : Str := ⟨#[32]⟩
theorem bl_eq : Str.ofString " " = bl := by decide
def Free (x : Str) : Prop := 32 ∉ cps x
/-- with blanks between -/
def glue : List (List Nat) → List Nat
  | [] => []
  | [x] => x
  | x :: y :: r => x ++ 32 :: glue (y :: r)
theorem glue_inj : ∀ {ps qs : List (List Nat)}, ps ≠ [] → qs ≠ [] → (∀ p ∈ ps, 32 ∉ p) → (∀ q ∈ qs, 32 ∉ q) → glue ps = glue qs → ps = qs
  | [], _, h, _, _, _, _ => absurd rfl h
  | _, [], _, h, _, _, _ => absurd rfl h
  | [x], [y], _, _, _, _, e => by
    have e' : x = y := e
    rw [e']
  | [x], y :: z :: r, _, _, hp, _, e => by
    have e' : x = y ++ 32 :: glue (z :: r) := e
    exact absurd (by rw [e']; simp) (hp x List.mem_cons_self)
  | x :: z :: r, [y], _, _, _, hq, e => by
    have e' : x ++ 32 :: glue (z :: r) = y := e
    exact absurd (by rw [← e']; simp) (hq y List.mem_cons_self)
  | x :: z :: r, y :: w :: s, _, _, hp, hq, e => by
    have e' : x ++ 32 :: glue (z :: r) = y ++ 32 :: glue (w :: s) := e
    have hx := hp x List.mem_cons_self
    have hy := hq y List.mem_cons_self
    obtain ⟨a, b⟩ := cut hx hy e'
    rw [a, glue_inj (fun e => by cases e) (fun e => by cases e) (fun p h => hp p (List.mem_cons_of_mem _ h)) (fun q h => hq q (List.mem_cons_of_mem _ h)) b]
where
  cut {x y a b : List Nat} (hx : 32 ∉ x) (hy : 32 ∉ y) (e : x ++ 32 :: a = y ++ 32 :: b) : x = y ∧ a = b := by
    induction x generalizing y with
    | nil =>
      cases y with
      | nil => exact ⟨rfl, (List.cons.inj e).2⟩
      | cons d s =>
        have := (List.cons.inj e).1
        exact absurd (by rw [this]; exact List.mem_cons_self) hy
    | cons c r ih =>
      cases y with
      | nil =>
        have := (List.cons.inj e).1
        exact absurd (by rw [← this]; exact List.mem_cons_self) hx
      | cons d s =>
        obtain ⟨e1, e2⟩ := List.cons.inj e
        obtain ⟨h1, h2⟩ := ih (fun h => hx (List.mem_cons_of_mem _ h)) (y := s) (fun h => hy (List.mem_cons_of_mem _ h)) e2
        exact ⟨by rw [e1, h1], h2⟩
theorem join_glue : ∀ ps : List Str, cps (Str.join bl ps) = glue (ps.map cps)
  | [] => rfl
  | [x] => rfl
  | x :: y :: r => by
    have ih := join_glue (y :: r)
    show cps (x ++ bl ++ Str.join bl (y :: r)) = _
    rw [cps_app, cps_app, ih]
    show cps x ++ [32] ++ _ = cps x ++ 32 :: _
    rw [List.append_assoc]
    rfl
theorem map_inj : ∀ {ps qs : List Str}, ps.map cps = qs.map cps → ps = qs
  | [], [], _ => rfl
  | [], _ :: _, e => by cases e
  | _ :: _, [], e => by cases e
  | p :: ps, q :: qs, e => by
    obtain ⟨e1, e2⟩ := List.cons.inj e
    rw [ext e1, map_inj e2]
theorem split_ne (x : Str) : Txt.split x bl ≠ [] := fun e => by
  have h := StrLaws.join_split x bl
  rw [e] at h
  have h2 : Txt.split x bl = Txt.split (Str.join bl []) bl := by rw [← h]
  rw [h2] at e
  revert e
  decide +kernel
theorem split_glue {x : Str} {ps : List Str} (hne : ps ≠ []) (hf : ∀ p ∈ ps, Free p) (e : cps x = glue (ps.map cps)) : Txt.split x bl = ps := by
  refine map_inj (glue_inj ?_ ?_ ?_ ?_ ?_)
  · exact fun z => split_ne x (List.map_eq_nil_iff.mp z)
  · exact fun z => hne (List.map_eq_nil_iff.mp z)
  · intro p hp
    obtain ⟨q, hq, rfl⟩ := List.mem_map.mp hp
    exact StrLaws.split_free x 32 q hq
  · intro p hp
    obtain ⟨q, hq, rfl⟩ := List.mem_map.mp hp
    exact hf q hq
  · rw [← join_glue, StrLaws.join_split, e]
theorem num_free {w : Str} (h : isNum w = true) : Free w := fun hm => by
  have := (isNumL_digits h).1 32 hm
  omega
theorem nowhere_free : Free (Str.ofString "nowhere") := by unfold Free; decide +kernel
theorem at_free : Free (Str.ofString "at") := by unfold Free; decide +kernel
end TX

set_option autoImplicit false
set_option maxRecDepth 100000
set_option linter.all false
set_option Elab.async false
namespace TX
open PySem PySem.NumText
abbrev Row := Int × Option Int
abbrev nowh : Str := Str.ofString "nowhere"
abbrev att : Str := Str.ofString "at"
def line (r : Row) : Str := match r.2 with
  | none => num r.1 ++ Str.ofString " nowhere"
  | some k => num r.1 ++ Str.ofString " at " ++ num k
def rowL : List Str → Option Row
  | [a, b] => if b = nowh ∧ isNum a = true then some (valOf a, none) else none
  | [a, b, c] => if b = att ∧ isNum a = true ∧ isNum c = true then some (valOf a, some (valOf c)) else none
  | _ => none
def rowOf (x : Str) : Option Row := rowL (Txt.split x bl)
def behind : Option Int → Int → Bool
  | none, _ => true
  | some a, b => decide (a < b)
def readFrom : Option Int → List Str → Option (List Row)
  | _, [] => some []
  | l, x :: r => match rowOf x with
    | none => none
    | some y => if behind l y.1 = true then (readFrom (some y.1) r).map (y :: ·) else none
theorem read_some {l : Option Int} {x : Str} {r : List Str} {y : Row} (h : rowOf x = some y) (hb : behind l y.1 = true) : readFrom l (x :: r) = (readFrom (some y.1) r).map (y :: ·) := by
  show (match rowOf x with | none => none | some y => if behind l y.1 = true then (readFrom (some y.1) r).map (y :: ·) else none) = _
  rw [h]
  exact if_pos hb
theorem read_none {l : Option Int} {x : Str} {r : List Str} (h : rowOf x = none) : readFrom l (x :: r) = none := by
  show (match rowOf x with | none => none | some y => if behind l y.1 = true then (readFrom (some y.1) r).map (y :: ·) else none) = _
  rw [h]
theorem read_not {l : Option Int} {x : Str} {r : List Str} {y : Row} (h : rowOf x = some y) (hb : behind l y.1 = false) : readFrom l (x :: r) = none := by
  show (match rowOf x with | none => none | some y => if behind l y.1 = true then (readFrom (some y.1) r).map (y :: ·) else none) = _
  rw [h]
  exact if_neg (by rw [hb]; decide)
theorem read_ahead {rest : List Str} (h : ∀ l, readFrom l rest = none) : ∀ (xs : List Str) (l : Option Int), readFrom l (xs ++ rest) = none
  | [], l => h l
  | x :: xs, l => by
    show readFrom l (x :: (xs ++ rest)) = none
    cases e : rowOf x with
    | none => exact read_none e
    | some y =>
      cases hb : behind l y.1 with
      | false => exact read_not e hb
      | true => rw [read_some e hb, read_ahead h xs]; rfl
theorem read_bad {x : Str} {xs rest : List Str} {l : Option Int} (h : rowOf x = none) : readFrom l (xs ++ x :: rest) = none := read_ahead (fun _ => read_none h) xs l
theorem read_turn {y z : Str} {ry rz : Row} {xs rest : List Str} {l : Option Int} (hy : rowOf y = some ry) (hz : rowOf z = some rz) (hle : rz.1 ≤ ry.1) : readFrom l (xs ++ y :: z :: rest) = none :=
  read_ahead (fun l => by
    cases hb : behind l ry.1 with
    | false => exact read_not hy hb
    | true =>
      have hz2 : behind (some ry.1) rz.1 = false := decide_eq_false (by omega)
      rw [read_some hy hb, read_not hz hz2]
      rfl) xs l
/-- names and keepers as they are drawn -/
structure RowOk (r : Row) : Prop where
  n0 : 0 ≤ r.1
  n1 : r.1 < 10 ^ 25
  k0 : ∀ k, r.2 = some k → 0 ≤ k ∧ k < 10 ^ 25
theorem app_nowh (x : Str) : cps (x ++ Str.ofString " nowhere") = cps x ++ 32 :: cps nowh := by
  rw [cps_app]
  have : cps (Str.ofString " nowhere") = 32 :: cps nowh := by decide +kernel
  rw [this]
theorem app_att (x y : Str) : cps (x ++ Str.ofString " at " ++ y) = cps x ++ 32 :: (cps att ++ 32 :: cps y) := by
  rw [cps_app, cps_app]
  have : cps (Str.ofString " at ") = 32 :: (cps att ++ [32]) := by decide +kernel
  rw [this, List.append_assoc]
  show _ ++ (32 :: (cps att ++ [32]) ++ _) = _
  rw [List.cons_append, List.append_assoc]
  rfl
theorem row_line {r : Row} (h : RowOk r) : rowOf (line r) = some r := by
  obtain ⟨n, o⟩ := r
  have hn : isNum (num n) = true := num_isNum h.n0
  have hv : valOf (num n) = n := num_val h.n0
  cases o with
  | none =>
    have e : Txt.split (num n ++ Str.ofString " nowhere") bl = [num n, nowh] := by
      refine split_glue (fun z => by cases z) (fun p hp => ?_) ?_
      · rcases List.mem_cons.mp hp with rfl | hp
        · exact num_free hn
        · rw [List.mem_singleton.mp hp]; exact nowhere_free
      · exact app_nowh _
    show rowL (Txt.split (num n ++ Str.ofString " nowhere") bl) = _
    rw [e]
    show (if nowh = nowh ∧ isNum (num n) = true then some (valOf (num n), none) else none) = _
    rw [if_pos ⟨rfl, hn⟩, hv]
  | some k =>
    obtain ⟨k0, k1⟩ := h.k0 k rfl
    have hk : isNum (num k) = true := num_isNum k0
    have e : Txt.split (num n ++ Str.ofString " at " ++ num k) bl = [num n, att, num k] := by
      refine split_glue (fun z => by cases z) (fun p hp => ?_) ?_
      · rcases List.mem_cons.mp hp with rfl | hp
        · exact num_free hn
        · rcases List.mem_cons.mp hp with rfl | hp
          · exact at_free
          · rw [List.mem_singleton.mp hp]; exact num_free hk
      · exact app_att _ _
    show rowL (Txt.split (num n ++ Str.ofString " at " ++ num k) bl) = _
    rw [e]
    show (if att = att ∧ isNum (num n) = true ∧ isNum (num k) = true then some (valOf (num n), some (valOf (num k))) else none) = _
    rw [if_pos ⟨rfl, hn, hk⟩, hv, num_val k0]
theorem read_lines : ∀ (rows : List Row) (l : Option Int), (∀ r ∈ rows, RowOk r) → (rows.map (·.1)).Pairwise (· < ·) → (∀ a, l = some a → ∀ r ∈ rows, a < r.1) → readFrom l (rows.map line) = some rows
  | [], _, _, _, _ => rfl
  | r :: rows, l, h, hp, hl => by
    have hb : behind l r.1 = true := by
      cases l with
      | none => rfl
      | some a => exact decide_eq_true (hl a rfl r List.mem_cons_self)
    rw [List.map_cons] at hp
    rw [List.map_cons, read_some (row_line (h r List.mem_cons_self)) hb, read_lines rows (some r.1) (fun q hq => h q (List.mem_cons_of_mem _ hq)) (List.pairwise_cons.mp hp).2 (fun a e q hq => by
      cases e
      exact (List.pairwise_cons.mp hp).1 q.1 (List.mem_map.mpr ⟨q, hq, rfl⟩))]
    rfl
/-! ### small texts of plain signs -/
structure Sm (x : Str) : Prop where
  asc : ∀ c ∈ cps x, c < 128
  len : x.length ≤ 200
theorem Sm.all {x : Str} (h : Sm x) : x.cps.all (· < 128) = true := by
  rw [Array.all_eq_true']
  intro c hc
  exact decide_eq_true (h.asc c (by simpa using hc))
theorem Sm.repr {x : Str} (h : Sm x) : (reprText x).length ≤ 2002 := by
  have := StrLaws.reprText_len x fun c hc => by
    have := h.asc c hc
    have h2 : (128 : Nat) < 16 ^ 8 := by decide
    omega
  have := h.len
  omega
theorem glue_mem : ∀ {ps : List (List Nat)} {p : List Nat}, p ∈ ps → (∀ c ∈ p, c ∈ glue ps) ∧ p.length ≤ (glue ps).length
  | [x], p, h => by
    rw [List.mem_singleton.mp h]
    exact ⟨fun _ h => h, Nat.le_refl _⟩
  | x :: y :: r, p, h => by
    show (∀ c ∈ p, c ∈ x ++ 32 :: glue (y :: r)) ∧ p.length ≤ (x ++ 32 :: glue (y :: r)).length
    rw [List.length_append, List.length_cons]
    rcases List.mem_cons.mp h with rfl | h
    · exact ⟨fun c hc => List.mem_append_left _ hc, by omega⟩
    · obtain ⟨h1, h2⟩ := glue_mem h
      exact ⟨fun c hc => List.mem_append_right _ (List.mem_cons_of_mem _ (h1 c hc)), by omega⟩
theorem glue_len : ∀ ps : List (List Nat), ps.length ≤ (glue ps).length + 1
  | [] => by simp
  | [x] => by simp
  | x :: y :: r => by
    have := glue_len (y :: r)
    show _ ≤ (x ++ 32 :: glue (y :: r)).length + 1
    rw [List.length_append, List.length_cons]
    simp only [List.length_cons] at this ⊢
    omega
theorem split_cps (x : Str) : cps x = glue ((Txt.split x bl).map cps) := by rw [← join_glue, StrLaws.join_split]
theorem Sm.split {x p : Str} (h : Sm x) (hp : p ∈ Txt.split x bl) : Sm p := by
  obtain ⟨h1, h2⟩ := glue_mem (List.mem_map.mpr ⟨p, hp, rfl⟩ : cps p ∈ (Txt.split x bl).map cps)
  rw [← split_cps] at h1 h2
  refine ⟨fun c hc => h.asc c (h1 c hc), ?_⟩
  have := h.len
  rw [len_cps] at this ⊢
  omega
theorem Sm.splitLen {x : Str} (h : Sm x) : (Txt.split x bl).length ≤ 201 := by
  have := glue_len ((Txt.split x bl).map cps)
  rw [← split_cps, List.length_map] at this
  have h2 := h.len
  rw [len_cps] at h2
  omega
theorem Sm.app {x y : Str} (hx : ∀ c ∈ cps x, c < 128) (hy : ∀ c ∈ cps y, c < 128) (h : x.length + y.length ≤ 200) : Sm (x ++ y) := by
  refine ⟨fun c hc => ?_, by rw [len_app]; exact h⟩
  rw [cps_app] at hc
  rcases List.mem_append.mp hc with hc | hc
  · exact hx c hc
  · exact hy c hc
theorem num_asc {n : Int} (h : 0 ≤ n) : ∀ c ∈ cps (num n), c < 128 := fun c hc => by
  have := (isNumL_digits (num_isNum h)).1 c hc
  omega
theorem line_sm {r : Row} (h : RowOk r) : Sm (line r) := by
  obtain ⟨n, o⟩ := r
  have a1 : ∀ c ∈ cps (num n), c < 128 := num_asc h.n0
  have l1 : (num n).length ≤ 25 := num_len h.n0 h.n1
  cases o with
  | none =>
    have e8 : (Str.ofString " nowhere").length = 8 := by decide +kernel
    have s1 : Sm (num n ++ Str.ofString " nowhere") := Sm.app a1 (by decide +kernel) (by omega)
    exact s1
  | some k =>
    obtain ⟨k0, k1⟩ := h.k0 k rfl
    have l2 := num_len k0 k1
    have e4 : (Str.ofString " at ").length = 4 := by decide +kernel
    have s1 : Sm (num n ++ Str.ofString " at ") := Sm.app a1 (by decide +kernel) (by omega)
    have s2 : Sm (num n ++ Str.ofString " at " ++ num k) := Sm.app s1.asc (num_asc k0) (by rw [len_app]; omega)
    exact s2
/-! ### the bad ones -/
def nines : Str := ⟨(List.replicate 30 57).toArray⟩
def badT : List Str := [Str.ofString "", Str.ofString " at", Str.ofString " at 1 2", Str.ofString " at  1", Str.ofString "  at 1", Str.ofString " At 1", Str.ofString " at 01", Str.ofString " at -1", Str.ofString " at +1",
  Str.ofString " at x", Str.ofString " nowhere ", Str.ofString " Nowhere", Str.ofString " at nowhere", Str.ofString " 1 at"]
def firstT : List Str := [Str.ofString "", Str.ofString "nowhere", Str.ofString "x at 1", Str.ofString "-1 at 1", Str.ofString "00 at 1", Str.ofString "01 nowhere", Str.ofString " 1 at 1"]
theorem bad_none : ∀ t ∈ badT, rowOf (nines ++ t) = none := by decide +kernel
theorem first_none : ∀ t ∈ firstT, rowOf t = none := by decide +kernel
def smB (x : Str) : Bool := (cps x).all (· < 128) && decide (x.length ≤ 200)
theorem smB_ok {x : Str} (h : smB x = true) : Sm x := by
  unfold smB at h
  rw [Bool.and_eq_true, decide_eq_true_eq] at h
  exact ⟨fun c hc => by simpa using List.all_eq_true.mp h.1 c hc, h.2⟩
theorem bad_sm : ∀ t ∈ badT, smB (nines ++ t) = true := by decide +kernel
theorem first_sm : ∀ t ∈ firstT, smB t = true := by decide +kernel
theorem more_sm : smB (nines ++ Str.ofString "9 at 1") = true := by decide +kernel
/-! ### signs among the figures -/
abbrev figs : Str := Str.ofString "0123456789"
def isFig (c : Nat) : Bool := decide (48 ≤ c) && decide (c ≤ 57)
theorem fig_in : ∀ c : Nat, c < 128 → (!(Builtin.Str.occurrences figs ⟨#[c]⟩ 0 figs.length 1).isEmpty) = isFig c := by decide +kernel
theorem isNum_nil {w : Str} (h : w = Str.ofString "") : isNum w = false := by rw [h]; decide +kernel
theorem cps_ne {w : Str} (h : w ≠ Str.ofString "") : ∃ c r, cps w = c :: r := by
  cases e : cps w with
  | nil => exact absurd (ext (by rw [e]; decide +kernel)) h
  | cons c r => exact ⟨c, r, rfl⟩
theorem isNum_cons {w : Str} {c : Nat} {r : List Nat} (h : cps w = c :: r) : isNum w = (!(c == 48 && !r.isEmpty) && (cps w).all isFig) := by
  unfold isNum
  rw [h]
  rfl
theorem one_nought {c : Nat} : (⟨#[c]⟩ : Str) = Str.ofString "0" ↔ c = 48 := by
  have e : Str.ofString "0" = (⟨#[48]⟩ : Str) := by decide +kernel
  rw [e]
  constructor
  · intro h
    have : cps ⟨#[c]⟩ = cps ⟨#[48]⟩ := by rw [h]
    exact (List.cons.inj this).1
  · intro h
    rw [h]
theorem nought_rest {w : Str} {r : List Nat} (h : cps w = 48 :: r) : w = Str.ofString "0" ↔ r = [] := by
  have e : cps (Str.ofString "0") = [48] := by decide +kernel
  constructor
  · intro hw
    rw [hw, e] at h
    exact (List.cons.inj h).2.symm
  · intro hr
    exact ext (by rw [h, e, hr])
/-! ### one line after another -/
def lastN (acc : List Row) : Option Int := acc.getLast?.map (·.1)
def At (xs : List Str) (i : Nat) (acc : List Row) : Prop := readFrom none xs = (readFrom (lastN acc) (xs.drop i)).map (acc ++ ·)
theorem at_0 {xs : List Str} : At xs 0 [] := by
  unfold At
  show readFrom none xs = (readFrom none xs).map _
  cases readFrom none xs with
  | none => rfl
  | some a => rfl
theorem drop_at {xs : List Str} {i : Nat} {x : Str} (h : xs[i]? = some x) : xs.drop i = x :: xs.drop (i + 1) := by
  obtain ⟨hl, e⟩ := List.getElem?_eq_some_iff.mp h
  rw [List.drop_eq_getElem_cons hl, e]
theorem read_step {xs : List Str} {i : Nat} {acc : List Row} {x : Str} {r : Row} (h : At xs i acc) (hx : xs[i]? = some x) (hr : rowOf x = some r) (hb : behind (lastN acc) r.1 = true) : At xs (i + 1) (acc ++ [r]) := by
  unfold At at h ⊢
  rw [h, drop_at hx, read_some hr hb]
  have e : lastN (acc ++ [r]) = some r.1 := by
    unfold lastN
    rw [List.getLast?_append]
    rfl
  rw [e, Option.map_map]
  congr 1
  funext l
  show acc ++ (r :: l) = acc ++ [r] ++ l
  rw [List.append_assoc]
  rfl
theorem read_stop1 {xs : List Str} {i : Nat} {acc : List Row} {x : Str} (h : At xs i acc) (hx : xs[i]? = some x) (hr : rowOf x = none) : readFrom none xs = none := by
  unfold At at h
  rw [h, drop_at hx, read_none hr]
  rfl
theorem read_stop2 {xs : List Str} {i : Nat} {acc : List Row} {x : Str} {r : Row} (h : At xs i acc) (hx : xs[i]? = some x) (hr : rowOf x = some r) (hb : behind (lastN acc) r.1 = false) : readFrom none xs = none := by
  unfold At at h
  rw [h, drop_at hx, read_not hr hb]
  rfl
theorem read_end {xs : List Str} {acc : List Row} (h : At xs xs.length acc) : readFrom none xs = some acc := by
  unfold At at h
  rw [h, List.drop_length]
  show some (acc ++ []) = _
  rw [List.append_nil]
end TX

set_option autoImplicit false
set_option maxRecDepth 100000
set_option linter.all false
set_option Elab.async false
/-! The layer's readings once more, each as a structure: Lean's elaborator looks through a def at every node of a term, never through a structure. -/
namespace R
open PySem PySem.Spec PyProof.Rows L2
structure PE (X : Cx) (e : Expr) (t : TE) : Prop where
  un : L2.PE X e t
structure PT (X : Cx) (e : Expr) (t : TT) : Prop where
  un : L2.PT X e t
structure PW (X : Cx) (e : Expr) (t : TT) : Prop where
  un : L2.PW X e t
structure PA (X : Cx) (es : List Expr) (t : TA) : Prop where
  un : L2.PA X es t
structure PS (X : Cx) (st : Stmt) (t : TS) : Prop where
  un : L2.PS X st t
structure PSs (X : Cx) (st : List Stmt) (t : TS) : Prop where
  un : L2.PSs X st t
structure PC (X : Cx) (op : CmpOp) (a b : Expr) (t : TE) : Prop where
  un : L2.PC X op a b t
structure PG (X : Cx) (tg : Expr) (t : TG) : Prop where
  un : L2.PG X tg t
structure PGs (X : Cx) (ts : List Expr) (t : TGs) : Prop where
  un : L2.PGs X ts t
structure PI (X : Cx) (tg iter : Expr) (wi : TI) : Prop where
  un : L2.PI X tg iter wi
structure PO (X : Cx) (e : Option Expr) (t : TO) : Prop where
  un : L2.PO X e t
structure PF (X : Cx) (ifs : List Expr) (t : TT) : Prop where
  un : L2.PF X ifs t
section
variable {X : Cx} {a b c e o l tg iter : Expr} {es rest : List Expr} {ta tb tc te td ty tv tl to : TE} {t : TA} {tA tB' : TT} {pos pos' p p2 apos cpos : Pos} {x : Str} {st : Stmt} {sts : List Stmt} {u v : TS}
theorem PW.pt (h : PW X e tA) : PT X e tA := ⟨L2.PW.pt h.un⟩
theorem pv (i : Nat) (hN : X.N[i]? = some x := by rfl) (hv : Vis X.env.scope x := by first | exact Or.inl rfl | exact Or.inr (Or.inl rfl) | exact Or.inr (Or.inr rfl)) (hd : (x == ("__debug__" : Str)) = false := by decide)
    (hcd : (x == ("__classdict__" : Str)) = false := by decide) : PE X (.Name x pos) (tVar i) := ⟨L2.pv i hN hv hd hcd⟩
theorem pe_bltn {v : V} {u : Value} (hg : Gl X x) (hm : X.mg x = none) (hv : bootBuiltins x = some u) (r : RelV v u) (hn : x ≠ "__name__" := by decide) (hd : (x == ("__debug__" : Str)) = false := by decide) : PE X (.Name x pos) (tC v) := ⟨L2.pe_bltn hg hm hv r hn hd⟩
theorem pe_int {i : Int} {j} : PE X (.Constant (.int i) j pos) (tC (.int i)) := ⟨L2.pe_int⟩
theorem pe_bl {b : Bool} {j} : PE X (.Constant (.bool b) j pos) (tC (.bl b)) := ⟨L2.pe_bl⟩
theorem pe_non {j} : PE X (.Constant .none j pos) (tC .non) := ⟨L2.pe_non⟩
theorem pe_str {x j} : PE X (.Constant (.str x) j pos) (tC (.str x)) := ⟨L2.pe_str⟩
theorem pe_lst (h : PA X es t) : PE X (.List es pos) (tLst t) := ⟨L2.pe_lst h.un⟩
theorem pe_tup {x1} (h : PA X es t) : PE X (.Tuple es x1 pos) (tTup t) := ⟨L2.pe_tup h.un⟩
theorem pe_op {op : Operator} {r : R2} (ho : OpR X (binaryOp op) r) (ha : PE X a ta) (hb : PE X b tb) : PE X (.BinOp a op b pos) (tOp r ta tb) := ⟨L2.pe_op ho ha.un hb.un⟩
theorem pe_ix {r : R2} (hr : IxR X r) (ha : PE X a ta) (hb : PE X b tb) (hs : PlainIx b) : PE X (.Subscript a b pos) (tOp r ta tb) := ⟨L2.pe_ix hr ha.un hb.un hs⟩
theorem pe_callB {id : String} {r : List V → Hp → VK → Prop} (hc : CallR X (.builtin id) r) (hg : Gl X x) (hm : X.mg x = none) (hv : bootBuiltins x = some (.builtin id)) (ha : PA X (e :: es) t) (hn : x ≠ "__name__" := by decide) (hdb : (x == ("__debug__" : Str)) = false := by decide)
    (he : starEach (e :: es) X.env = (false, eval e X.env) :: starEach es X.env := by rfl) (hpl : (backTo pos (starEach es X.env)).any (·.1) = false := by rfl) : PE X (.Call (.Name x p) (e :: es) [] pos) (tCB r t) := ⟨L2.pe_callB hc hg hm hv ha.un hn hdb he hpl⟩
theorem pe_callTy {T : String} {r : List V → Hp → VK → Prop} (hc : CallR X (.type T) r) (hg : Gl X x) (hm : X.mg x = none) (hv : bootBuiltins x = some (.type T)) (ha : PA X (e :: es) t) (hn : x ≠ "__name__" := by decide) (hdb : (x == ("__debug__" : Str)) = false := by decide)
    (he : starEach (e :: es) X.env = (false, eval e X.env) :: starEach es X.env := by rfl) (hpl : (backTo pos (starEach es X.env)).any (·.1) = false := by rfl) : PE X (.Call (.Name x p) (e :: es) [] pos) (tCB r t) := ⟨L2.pe_callTy hc hg hm hv ha.un hn hdb he hpl⟩
theorem pe_call {CX : CXT} {k : Nat} {f : Addr} {fd : FuncData} {ps : List Str} {sp : Sp} {dvs : List V} {ds : List Value} {E : XK} (F : FnOk X.prog X.w X.K X.mg X.base CX k f fd ps sp) (hr : Room k X.A) (hg : Gl X x) (hm : X.mg x = some (.ref f)) (hk : PySem.W.keepIn X.K (.ref f) = true) (hb : Binds X.K fd ps ds) (hd : Vals dvs ds) (hx : Passes CX X E)
    (ha : PA X (e :: es) t) (hdb : (x == ("__debug__" : Str)) = false := by decide) (he : starEach (e :: es) X.env = (false, eval e X.env) :: starEach es X.env := by rfl) (hpl : (backTo pos (starEach es X.env)).any (·.1) = false := by rfl) :
    PE X (.Call (.Name x p) (e :: es) [] pos) (tCall sp dvs E t) := ⟨L2.pe_call F hr hg hm hk hb hd hx ha.un hdb he hpl⟩
theorem pe_cmpR {op : CmpOp} {r : R2} (ho : OpR X (compareOp op) r) (ha : PE X a ta) (hb : PE X b tb) (hm : behindInMarks op b = false) : PE X (.Compare a [op] [b] pos) (tOp r ta tb) := ⟨L2.pe_cmpR ho ha.un hb.un hm⟩
theorem pe_and (ha : PE X a ta) (hb : PE X (.BoolOp .And (b :: rest) pos) tb) : PE X (.BoolOp .And (a :: b :: rest) pos) (tAndV ta tb) := ⟨L2.pe_and ha.un hb.un⟩
theorem pe_or (ha : PE X a ta) (hb : PE X (.BoolOp .Or (b :: rest) pos) tb) : PE X (.BoolOp .Or (a :: b :: rest) pos) (tOrV ta tb) := ⟨L2.pe_or ha.un hb.un⟩
theorem pe_one {op} {t : TE} (h : PE X a t) : PE X (.BoolOp op [a] pos) t := ⟨L2.pe_one h.un⟩
theorem pe_slice {r : V → Option Int → Option Int → Hp → VK → Prop} {lo hi : Option Expr} {tl th : TO} (hr : SlR X r) (he : PE X e te) (hl : PO X lo tl) (hu : PO X hi th) : PE X (.Subscript e (.Slice lo hi none p2) pos) (tSl r te tl th) := ⟨L2.pe_slice hr he.un hl.un hu.un⟩
theorem pe_dget (hu : X.A.units + 1 < cLine) (ho : PE X o td) (hi : PE X e ty) (hs : NoSl e) : PE X (.Subscript o e pos) (tDGet td ty) := ⟨L2.pe_dget hu ho.un hi.un hs⟩
theorem pe_dnewK : PE X (.Dict [] [] pos) tDNewK := ⟨L2.pe_dnewK⟩
theorem pe_bm {T id : String} {name : Str} {r : V → List V → Hp → VK → Prop} (pa : PlainAttrs T) (slot : Slot T name id) (hty : typeOf (.builtin id) = pure (.type "method_descriptor")) (hm : MtR X id r) (ho : PE X o to) (ha : PA X (e :: es) t)
    (hbase : attributeBase o name X.env (eval o X.env) = eval o X.env := by rfl)
    (hfew : ((backTo cpos (starEach (e :: es) X.env)).all (fun x => !x.1) && (backToKw cpos (keywordEach [] X.env)).all (fun x => x.1.isSome)
      && decide ((e :: es).length + ([] : List Keyword).length + (if ([] : List Keyword).isEmpty then 0 else 1) < 30)) = true := by rfl)
    (hline : (apos.endLine == cpos.line) = true := by rfl) (hs : starEach (e :: es) X.env = (false, eval e X.env) :: starEach es X.env := by rfl) (hplain : (backTo cpos (starEach es X.env)).any (·.1) = false := by rfl) :
    PE X (.Call (.Attribute o name apos) (e :: es) [] cpos) (tBM X.K T r to t) := ⟨L2.pe_bm pa slot hty hm ho.un ha.un hbase hfew hline hs hplain⟩
theorem pt_cmp {op : CmpOp} {t : TE} (h : PC X op a b t) (h1 : behindInMarks op b = false := by first | exact nobehind _ (by decide) (by decide) | rfl) : PT X (.Compare a [op] [b] pos) (tB t) := ⟨L2.pt_cmp h.un h1⟩
theorem pt_cmpR {op : CmpOp} {r : R2} (ho : OpR X (compareOp op) r) (ha : PE X a ta) (hb : PE X b tb) (hm : behindInMarks op b = false) : PT X (.Compare a [op] [b] pos) (tTest (tOp r ta tb)) := ⟨L2.pt_cmpR ho ha.un hb.un hm⟩
theorem pt_not (ha : PT X a tA) : PT X (.UnaryOp .Not a pos) (tNot tA) := ⟨L2.pt_not ha.un⟩
theorem pt_val {t : TE} (h : PE X e t) (he : ∀ whole, isTrue e X.env whole = (do let v ← whole; standAt e.pos; holding [v] (truthy v)) := by intro _; rfl) : PT X e (tB t) := ⟨L2.pt_val h.un he⟩
theorem pw_or (ha : PT X a tA) (hb : PW X (.BoolOp .Or (b :: rest) pos) tB') : PW X (.BoolOp .Or (a :: b :: rest) pos) (tOr tA tB') := ⟨L2.pw_or ha.un hb.un⟩
theorem pw_or1 (ha : PT X a tA) : PW X (.BoolOp .Or [a] pos) tA := ⟨L2.pw_or1 ha.un⟩
theorem pw_and (ha : PT X a tA) (hb : PW X (.BoolOp .And (b :: rest) pos) tB') : PW X (.BoolOp .And (a :: b :: rest) pos) (tAnd tA tB') := ⟨L2.pw_and ha.un hb.un⟩
theorem pw_and1 (ha : PT X a tA) : PW X (.BoolOp .And [a] pos) tA := ⟨L2.pw_and1 ha.un⟩
theorem pa_nil : PA X [] tNil := ⟨L2.pa_nil⟩
theorem pa_cons (ha : PE X e te) (hr : PA X es t) (hs : starEach (e :: es) X.env = (false, eval e X.env) :: starEach es X.env := by rfl) : PA X (e :: es) (tCons te t) := ⟨L2.pa_cons ha.un hr.un hs⟩
theorem pa_int {i : Int} {j} (h : PA X es t) : PA X (.Constant (.int i) j p :: es) (tCons (tC (.int i)) t) := ⟨L2.pa_int h.un⟩
theorem pa_cst {k j} (he : PE X (.Constant k j p) te) (h : PA X es t) : PA X (.Constant k j p :: es) (tCons te t) := ⟨L2.pa_cons he.un h.un (by rfl)⟩
theorem pa_nm (he : PE X (.Name x p) te) (h : PA X es t) : PA X (.Name x p :: es) (tCons te t) := ⟨L2.pa_nm he.un h.un⟩
theorem pa_bin {op} (he : PE X (.BinOp a op b p) te) (h : PA X es t) : PA X (.BinOp a op b p :: es) (tCons te t) := ⟨L2.pa_bin he.un h.un⟩
theorem pa_sub (he : PE X (.Subscript a b p) te) (h : PA X es t) : PA X (.Subscript a b p :: es) (tCons te t) := ⟨L2.pa_sub he.un h.un⟩
theorem pa_call {as ks} (he : PE X (.Call a as ks p) te) (h : PA X es t) : PA X (.Call a as ks p :: es) (tCons te t) := ⟨L2.pa_call he.un h.un⟩
theorem pss_cons (h1 : PS X st u) (h2 : PSs X sts v) : PSs X (st :: sts) (tSeq u v) := ⟨L2.pss_cons h1.un h2.un⟩
theorem pss_one (h1 : PS X st u) : PSs X [st] u := ⟨L2.pss_one h1.un⟩
theorem pss_nil : PSs X [] tNext := ⟨L2.pss_nil⟩
theorem ps_set {i : Nat} (hN : X.N.Nodup) (hi : X.N[i]? = some x) (hx : Loc X.env.scope x) (he : PE X e te) (hs : swapsWith e (some (.Name x pos')) pos.line X.env = pure false := by rfl) (hf : X.fn x = true ∨ X.env.scope.names.lookup x = some .local := by first | exact .inl rfl | exact .inr rfl | assumption) :
    PS X (.Assign [.Name x pos'] e pos) (tAsg te (gName i)) := ⟨L2.ps_set hN hi hx he.un hs hf⟩
theorem ps_if {sa sb : List Stmt} (hc : PT X c tA) (ha : PSs X sa u) (hb : PSs X sb v) : PS X (.If c sa sb pos) (tIfS tA u v) := ⟨L2.ps_if hc.un ha.un hb.un⟩
theorem ps_for {wi : TI} {g : TG} (hp : PassesOwn (model X.prog X.w) X.A X.env X.xe) (hc : X.calm = true) (hi : PI X tg iter wi) (hg : PG X tg g) (hb : PSs X sts u)
    (hs : ∀ x, foldedSetIterable iter X.env x = pure x := by intro _; rfl) : PS X (.For tg iter sts [] pos) (tFor wi g u) := ⟨L2.ps_for hp hc hi.un hg.un hb.un hs⟩
theorem ps_ret (he : PE X e te) : PS X (.Return (some e) pos) (tRet te) := ⟨L2.ps_ret he.un⟩
theorem ps_expr (he : PE X e te) (hs : swapsWith e none pos.line X.env = pure false := by rfl) : PS X (.Expr e pos) (tDrop te) := ⟨L2.ps_expr he.un hs⟩
theorem ps_dput (hu : X.A.units + 1 < cLine) (ho : PE X o td) (hi : PE X e ty) (hv : PE X c tv) (hs : swapsWith c (some (.Subscript o e pos')) pos.line X.env = pure false) :
    PS X (.Assign [.Subscript o e pos'] c pos) (sDPut td ty tv) := ⟨L2.ps_dput hu ho.un hi.un hv.un hs⟩
theorem pg_name {i : Nat} (hN : X.N.Nodup) (hi : X.N[i]? = some x) (hx : Loc X.env.scope x) (hf : X.fn x = true ∨ X.env.scope.names.lookup x = some .local := by first | exact .inl rfl | exact .inr rfl | assumption) : PG X (.Name x pos) (gName i) := ⟨L2.pg_name hN hi hx hf⟩
theorem pg_tup {k : Nat} {t : TGs} {n : Nat} (hc : X.calm = true) (h : PGs X es t)
    (hn : (assignEach es X.env).length = n := by rfl) (hst : (assignEach es X.env).findIdx? (·.1) = none := by rfl) : PG X (.Tuple es k pos) (gTup X.K n t) := ⟨L2.pg_tup hc h.un hn hst⟩
theorem pgs_nil : PGs X [] gNil := ⟨L2.pgs_nil⟩
theorem pgs_cons {t : TG} {u : TGs} (h1 : PG X e t) (h2 : PGs X es u)
    (hs : (assignEach (e :: es) X.env).map (·.2) = assign e X.env :: (assignEach es X.env).map (·.2) := by rfl) : PGs X (e :: es) (gCons t u) := ⟨L2.pgs_cons h1.un h2.un hs⟩
theorem pi_list (hl : PE X l tl) : PI X tg l (iList X.K tl) := ⟨L2.pi_list hl.un⟩
theorem pi_range1 {ta : TA} (hg : Gl X "range") (hm : X.mg "range" = none) (ha : PA X [a] ta) (hs : starEach [a] X.env = [(false, eval a X.env)] := by rfl) : PI X tg (.Call (.Name "range" p) [a] [] pos) (iRng1 ta) := ⟨L2.pi_range1 hg hm ha.un hs⟩
theorem po_none : PO X none tNoPart := ⟨L2.po_none⟩
theorem po_some (h : PE X e te) : PO X (some e) (tPart te) := ⟨L2.po_some h.un⟩
theorem pc_isN {j} (ha : PE X a ta) : PC X .Is a (.Constant .none j pos') (tIsN ta) := ⟨L2.pc_isN ha.un⟩
theorem pe_comp {osc : Scope} {N0 N' : List Str} {sel : List (Option Nat)} {scope : Scope} {elt : Expr} {ifs : List Expr} {wi : TI} {g : TG} (S : CScope osc N0 N' sel scope) (hcalm : X.calm = true) (hosc : X.env.scope = osc) (hN0 : X.N = N0)
    (hi : PI X tg iter wi) (hg : ∀ cl s₀ H₀ fp, PG (compCx X scope cl N' s₀ H₀ fp) tg g) (hif : ∀ cl s₀ H₀ fp, PF (compCx X scope cl N' s₀ H₀ fp) ifs tA) (he : ∀ cl s₀ H₀ fp, PE (compCx X scope cl N' s₀ H₀ fp) elt te)
    (hs : ∀ x, foldedSetIterable iter X.env x = pure x := by intro _; rfl) : PE X (.ListComp elt [⟨tg, iter, ifs, 0⟩] scope pos) (tComp sel wi g tA te) :=
  ⟨L2.pe_comp S hcalm hosc hN0 hi.un (fun cl s₀ H₀ fp => (hg cl s₀ H₀ fp).un) (fun cl s₀ H₀ fp => (hif cl s₀ H₀ fp).un) (fun cl s₀ H₀ fp => (he cl s₀ H₀ fp).un) hs⟩
theorem ps_setC {osc : Scope} {N0 N' : List Str} {sel : List (Option Nat)} {scope : Scope} {elt : Expr} {ifs : List Expr} {spos : Pos} {wi : TI} {g : TG} {i : Nat} (S : CScope osc N0 N' sel scope) (hcalm : X.calm = true) (hosc : X.env.scope = osc) (hN0 : X.N = N0)
    (hN : X.N.Nodup) (hiy : X.N[i]? = some x) (hy : X.env.scope.names.lookup x = some .local) (hi : PI X tg iter wi) (hg : ∀ cl s₀ H₀ fp, PG (compCx X scope cl N' s₀ H₀ fp) tg g) (hif : ∀ cl s₀ H₀ fp, PF (compCx X scope cl N' s₀ H₀ fp) ifs tA) (he : ∀ cl s₀ H₀ fp, PE (compCx X scope cl N' s₀ H₀ fp) elt te)
    (hsw : swapsWith (.ListComp elt [⟨tg, iter, ifs, 0⟩] scope pos) (some (.Name x pos')) spos.line X.env = pure true) (hs : ∀ x, foldedSetIterable iter X.env x = pure x := by intro _; rfl) :
    PS X (.Assign [.Name x pos'] (.ListComp elt [⟨tg, iter, ifs, 0⟩] scope pos) spos) (tAsg (tComp sel wi g tA te) (gName i)) :=
  ⟨L2.ps_setC S hcalm hosc hN0 hN hiy hy hi.un (fun cl s₀ H₀ fp => (hg cl s₀ H₀ fp).un) (fun cl s₀ H₀ fp => (hif cl s₀ H₀ fp).un) (fun cl s₀ H₀ fp => (he cl s₀ H₀ fp).un) hsw hs⟩
theorem pf_nil : PF X [] tNoIf := ⟨L2.pf_nil⟩
theorem pc_notN {j} (ha : PE X a ta) : PC X .IsNot a (.Constant .none j pos') (tNotN ta) := ⟨L2.pc_notN ha.un⟩
theorem pss_never : PSs X sts (fun _ _ _ => False) := ⟨fun _ _ _ _ _ _ h => h.elim⟩
end
section
variable {P : Program} {w : World} {K : PySem.W.Frag} {mg : Str → Option Value} {base : Heap}
/-- the rule for a def, over these readings -/
theorem ok {x qual : Str} {st : Stmt} {f : Addr} {fd : FuncData} {N ps : List Str} {k : Nat} {sp : Sp} (F : Fun K x qual st f fd) (S : FnScope N ps (defScope st)) (len : ∀ vs H Q E, sp vs H Q E → vs.length = ps.length)
    (hbody : ∀ (cdv : Value) (A : Around) (outer : List Env) (s : Shared) (H : Hp) (vs : List V) (Q : VK) (E : XK), Room k (A.deeper (envOfC qual (defScope st) s.heap.objs.size f cdv)) → sp vs H Q E →
      ∃ t, PSs (cxOf CX0 P w K mg base N qual (defScope st) f cdv A outer s H E).nox (defBody st) t ∧ t { nx := fun _ H' => Q .non H', rt := Q } (start N vs) H) : FnOk P w K mg base CX0 (k + 1) f fd ps sp :=
  F.ok S len fun cdv A outer s H vs Q E hr h => by
    obtain ⟨t, h1, h2⟩ := hbody cdv A outer s H vs Q E hr h
    exact ⟨t, h1.un, h2⟩
end
end R

set_option autoImplicit false
set_option maxRecDepth 100000
set_option linter.all false
set_option Elab.async false
namespace R
open PySem PySem.Spec PyProof.Rows L2
section
variable {X : Cx} {a b c e o l tg iter i g : Expr} {es rest : List Expr} {ta tb tc te td ty tv tl to tx ti : TE} {t : TA} {pos pos' p apos cpos : Pos} {x f : Str} {st : Stmt} {sts : List Stmt}
theorem pe_un {op : UnaryOp} {r : V → Hp → VK → Prop} (ho : UnR X (unaryOp op) r) (ha : PE X a ta) : PE X (.UnaryOp op a pos) (tUn r ta) := ⟨L2.pe_un ho ha.un⟩
theorem pi_range2 (hg : Gl X "range") (hm : X.mg "range" = none) (ha : PA X [a, b] t) (hs : starEach [a, b] X.env = [(false, eval a X.env), (false, eval b X.env)] := by rfl) (hs2 : starEach [b] X.env = [(false, eval b X.env)] := by rfl) :
    PI X tg (.Call (.Name "range" p) [a, b] [] pos) (iRng2 t) := ⟨L2.pi_range2 hg hm ha.un hs hs2⟩
end
end R

set_option autoImplicit false
set_option maxRecDepth 100000
set_option linter.all false
set_option Elab.async false
namespace R
open PySem PySem.Spec PyProof.Rows L2
section
variable {X : Cx} {k1 k2 v1 v2 : Expr} {tk1 tk2 tv1 tv2 : TE} {pos : Pos}
/-- what is left, to be read later -/
def tAny (X : Cx) (sts : List Stmt) : TS := fun D σ H => ∃ t, PSs X sts t ∧ t D σ H
theorem pss_any {X : Cx} {sts : List Stmt} : PSs X sts (tAny X sts) := ⟨fun pins s σ H D I h => by
  obtain ⟨t, p, q⟩ := h
  exact p.un pins s σ H D I q⟩
end
end R

set_option autoImplicit false
set_option maxRecDepth 100000
set_option linter.all false
set_option Elab.async false
namespace R
open PySem PySem.Spec PyProof.Rows L2
structure PH (X : Cx) (hs : List ExceptHandler) (th : Value → TS) : Prop where
  un : L2.PH X hs th
section
variable {X : Cx} {E : XK} {C C' : Addr} {x : Str} {np cpos pos : Pos} {e : Expr} {es : List Expr} {t : TA} {b₀ : Stmt} {suite body : List Stmt} {rest hs : List ExceptHandler} {h0 : ExceptHandler} {ts : TS} {tr th : Value → TS} {tb : XK → TS}
theorem ps_raise (hX : Raises X E) (hcalm : X.calm = true) (hg : Gl X x) (hm : X.mg x = some (.ref C)) (c : ExcC X.K C) (ha : PA X (e :: es) t) (hdb : (x == ("__debug__" : Str)) = false := by decide)
    (he : starEach (e :: es) X.env = (false, eval e X.env) :: starEach es X.env := by rfl) (hpl : (backTo cpos (starEach es X.env)).any (·.1) = false := by rfl) :
    PS X (.Raise (some (.Call (.Name x np) (e :: es) [] cpos)) none pos) (tRaise C E t) := ⟨L2.ps_raise hX hcalm hg hm c ha.un hdb he hpl⟩
theorem ph_nil : PH X [] tH0 := ⟨L2.ph_nil⟩
theorem ph_cons (hg : Gl X x) (hm : X.mg x = some (.ref C')) (c' : ExcC X.K C') (hs : ∀ v, PSs (X.hd v) (b₀ :: suite) ts) (hr : PH X rest tr) (hdb : (x == ("__debug__" : Str)) = false := by decide) :
    PH X (.ExceptHandler (some (.Name x np)) none (b₀ :: suite) pos :: rest) (tH X.K C' ts tr) := ⟨L2.ph_cons hg hm c' (fun v => (hs v).un) hr.un hdb⟩
theorem ps_tryX (hst : X.stack = X.env :: X.outer) (hf : X.env.frame = some X.env.locals) (hb : ∀ (E1 : XK) (xe : Value → Shared → Prop) (ps : List (Addr × Obj)), Passes (CX1 X.prog X.w X.K) (X.tr xe ps) E1 → PSs (X.tr xe ps) body (tb E1)) (hh : PH X (h0 :: hs) th) :
    PS X (.Try body (h0 :: hs) [] [] pos) (tTryX tb th) := ⟨L2.ps_tryX hst hf (fun E1 xe ps hp => (hb E1 xe ps hp).un) hh.un⟩
end
section
variable {P : Program} {w : World} {K : PySem.W.Frag} {mg : Str → Option Value} {base : Heap}
/-- a def that may raise -/
theorem okX {x qual : Str} {st : Stmt} {f : Addr} {fd : FuncData} {N ps : List Str} {k : Nat} {sp : Sp} (F : Fun K x qual st f fd) (S : FnScope N ps (defScope st)) (len : ∀ vs H Q E, sp vs H Q E → vs.length = ps.length)
    (hbody : ∀ (cdv : Value) (A : Around) (outer : List Env) (s : Shared) (H : Hp) (vs : List V) (Q : VK) (E : XK), Room k (A.deeper (envOfC qual (defScope st) s.heap.objs.size f cdv)) → sp vs H Q E →
      ∃ t, PSs (cxOf (CX1 P w K) P w K mg base N qual (defScope st) f cdv A outer s H E) (defBody st) t ∧ t { nx := fun _ H' => Q .non H', rt := Q } (start N vs) H) : FnOk P w K mg base (CX1 P w K) (k + 1) f fd ps sp := by
  obtain ⟨oc, od, kV, doc, pm, an, cdv, ct, osl, rfl, lk, hcd⟩ := F.ex
  refine fn_of lk hcd S len fun A outer s H vs Q E hr hsp => ?_
  obtain ⟨t, h1, h2⟩ := hbody cdv A outer s H vs Q E hr hsp
  exact ⟨t, h1.un, h2⟩
end
end R

set_option autoImplicit false
set_option maxRecDepth 100000
set_option linter.all false
set_option Elab.async false
namespace R
open PySem PySem.Spec PyProof.Rows L2
structure PJ (X : Cx) (es : List Expr) (t : TJ) : Prop where
  un : L2.PJ X es t
section
variable {X : Cx} {es : List Expr} {t : TJ} {e v₁ v₂ tg l : Expr} {te tl : TE} {pos pos' np : Pos} {y x n : Str} {C' : Addr} {i : Nat} {b₀ : Stmt} {suite : List Stmt} {rest : List ExceptHandler} {ts : TS} {tr : Value → TS}
theorem pj_nil : PJ X [] tJ0 := ⟨L2.pj_nil⟩
theorem pj_str {j} (h : PJ X es t) : PJ X (.Constant (.str y) j pos :: es) (tJs y t) := ⟨L2.pj_str h.un⟩
theorem pj_int (he : PE X e te) (h : PJ X es t) : PJ X (.FormattedValue e (-1) none pos :: es) (tJi te t) := ⟨L2.pj_int he.un h.un⟩
theorem pj_repr (he : PE X e te) (h : PJ X es t) : PJ X (.FormattedValue e 114 none pos :: es) (tJr te t) := ⟨L2.pj_repr he.un h.un⟩
theorem pe_join (h : PJ X (v₁ :: v₂ :: es) t) : PE X (.JoinedStr (v₁ :: v₂ :: es) pos) (tJoin t) := ⟨L2.pe_join h.un⟩
theorem pi_str (hl : PE X l tl) : PI X tg l (iStr tl) := ⟨L2.pi_str hl.un⟩
theorem pe_glob {v : V} {u : Value} (hg : Gl X x) (hm : X.mg x = some u) (r : RelV v u) (hd : (x == ("__debug__" : Str)) = false := by decide) : PE X (.Name x pos) (tC v) := ⟨L2.pe_glob hg hm r hd⟩
theorem ph_consAs (hex : X.ex = []) (hN : X.N.Nodup) (hi : X.N[i]? = some n) (hx : X.env.kindOf n = some .local) (hg : Gl X x) (hm : X.mg x = some (.ref C')) (c' : ExcC X.K C') (hs : ∀ v, PSs (X.hd v) (b₀ :: suite) ts) (hr : PH X rest tr) (hdb : (x == ("__debug__" : Str)) = false := by decide) :
    PH X (.ExceptHandler (some (.Name x np)) (some n) (b₀ :: suite) pos :: rest) (tHA X.K C' i ts tr) := ⟨L2.ph_consAs hex hN hi hx hg hm c' (fun v => (hs v).un) hr.un hdb⟩
end
end R

set_option autoImplicit false
set_option maxRecDepth 100000
set_option linter.all false
set_option Elab.async false
set_option maxHeartbeats 8000000
namespace RK
open PySem L2
section
variable {P : Program} {w : World} {K : PySem.W.Frag} {mg : Str → Option Value} {base : Heap} {f : Addr} {fd : FuncData}
/-- a def of the text, its name and how its arguments bind -/
structure Fn (K : PySem.W.Frag) (mg : Str → Option Value) (x : Str) (ps : List Str) (st : Stmt) (f : Addr) (fd : FuncData) : Prop where
  F : Fun K x x st f fd
  mgf : mg x = some (.ref f)
  b : Binds K fd ps []
def compScope (e : Expr) : Scope := match e with
  | .ListComp _ _ sc _ => sc
  | _ => default
def retE (s : Stmt) (i : Nat) : Expr := match (defBody s).getD i (.Pass ⟨0, 0, 0, 0⟩) with
  | .Return (some e) _ => e
  | .Assign _ e _ => e
  | _ => .Constant .none 0 ⟨0, 0, 0, 0⟩
theorem take_snoc {α : Type} {l : List α} {i : Nat} {x : α} (h : l[i]? = some x) : l.take (i + 1) = l.take i ++ [x] := by
  rw [List.take_add_one, h]
  rfl
theorem same_set {H H1 : Hp} {p : Addr} {o : HO} (a : Same H H1) (h : H p = none) : Same H (L2.upd H1 p o) := fun b u e => by
  rw [upd_ne (ne_of_none e h)]
  exact a b u e
/-- the built-in names that the text leaves as they are -/
structure Blt (mg : Str → Option Value) : Prop where
  len : mg "len" = none
  range : mg "range" = none
  sorted : mg "sorted" = none
  isinstance : mg "isinstance" = none
  int : mg "int" = none
  bool : mg "bool" = none
  str : mg "str" = none
  dict : mg "dict" = none
  list : mg "list" = none
  tuple : mg "tuple" = none
def spWhole : Sp := fun vs H Q _ => ∃ i, vs = [.int i] ∧ Q (.bl true) H
end
end RK
namespace RK
open PySem
open L2 hiding pv pe_bltn pe_int pe_bl pe_non pe_str pe_lst pe_tup pe_op pe_ix pe_callB pe_callTy pe_call pe_cmpR pe_and pe_or pe_one pe_not pe_slice pe_dget pe_dnewK pe_bm pt_cmp pt_cmpR pt_not pt_val pw_or pw_or1 pw_and pw_and1 pa_nil pa_cons pa_int pa_nm pa_bin pa_sub pa_call pss_cons pss_one pss_nil ps_set ps_if ps_for ps_ret ps_expr ps_dput pg_name pg_tup pgs_nil pgs_cons pi_list pi_range1 po_none po_some pc_isN PE PT PW PA PS PSs PC PG PGs PI PO PF
open R hiding ok
section
variable {P : Program} {w : World} {K : PySem.W.Frag} {mg : Str → Option Value} {base : Heap} {f : Addr} {fd : FuncData}
inductive Scal : V → Prop where
  | non : Scal .non
  | bl (b : Bool) : Scal (.bl b)
  | int (i : Int) : Scal (.int i)
  | str (s : Str) : Scal (.str s)
def cutI (ns : List Int) (lo hi : Option Int) : List Int := (ns.drop (HT.sIx ns.length 0 lo)).take (HT.sIx ns.length ns.length hi - HT.sIx ns.length 0 lo)
theorem cutV_ints (ns : List Int) (lo hi : Option Int) : cutV (ns.map V.int) lo hi = (cutI ns lo hi).map V.int := by
  unfold cutV cutI
  rw [List.length_map, List.map_take, List.map_drop]
theorem cutI_len (ns : List Int) (lo hi : Option Int) : (cutI ns lo hi).length ≤ ns.length := by
  unfold cutI
  rw [List.length_take, List.length_drop]
  omega
/-- a def of the text and what it does -/
def Has (P : Program) (w : World) (K : PySem.W.Frag) (mg : Str → Option Value) (base : Heap) (x : Str) (ps : List Str) (st : Stmt) (k : Nat) (sp : Sp) : Prop :=
  ∃ f fd, Fn K mg x ps st f fd ∧ FnOk P w K mg base CX0 k f fd ps sp
theorem int_at {ns : List Int} {i : Nat} {x : V} (h : (ns.map V.int)[i]? = some x) : ∃ n, ns[i]? = some n ∧ n ∈ ns ∧ i < ns.length ∧ V.int n = x := by
  rw [List.getElem?_map] at h
  cases e : ns[i]? with
  | none => rw [e] at h; cases h
  | some n => rw [e] at h; exact ⟨n, rfl, List.mem_of_getElem? e, (List.getElem?_eq_some_iff.mp e).1, Option.some.inj h⟩
def spLaw (K : PySem.W.Frag) : Sp := fun vs H Q _ => ∃ (a : Addr) (ns : List Int), vs = [.ref a] ∧ SqL K H a (ns.map V.int) ∧ ns.length ≤ 63 ∧ ∀ H', Q (.bl true) H'
end
end RK

set_option autoImplicit false
set_option maxRecDepth 100000
set_option linter.all false
set_option Elab.async false
namespace RK
open PySem L2
/-! ### deals: rooms, what is dealt, rows -/
def optV : Option Int → V
  | none => .non
  | some k => .int k
/-- rows (name, keeper or None) by their addresses -/
def Rows (H : Hp) (bs : List Addr) (rs : List (Int × Option Int)) : Prop := Paired (fun b r => H b = some (.tup [V.int r.1, optV r.2])) bs rs
theorem Rows.same {H H' : Hp} {bs : List Addr} {rs : List (Int × Option Int)} (t : Rows H bs rs) (s : Same H H') : Rows H' bs rs := Paired.mapP t fun _ _ e => s _ _ e
theorem Rows.snoc {H : Hp} {bs : List Addr} {rs : List (Int × Option Int)} {b : Addr} {r : Int × Option Int} (t : Rows H bs rs) (h : H b = some (.tup [V.int r.1, optV r.2])) : Rows H (bs ++ [b]) (rs ++ [r]) := Paired.snoc t h
theorem Rows.length {H : Hp} {bs : List Addr} {rs : List (Int × Option Int)} (t : Rows H bs rs) : bs.length = rs.length := Paired.length t
theorem Rows.upd {H : Hp} {bs : List Addr} {rs : List (Int × Option Int)} {p : Addr} {o : HO} (t : Rows H bs rs) (h : ∀ xs, H p ≠ some (.tup xs)) : Rows (L2.upd H p o) bs rs := Paired.mapP t fun b d e => by
  rw [upd_ne (fun z => h _ (by rw [← z]; exact e))]
  exact e
theorem Rows.fresh {H : Hp} {bs : List Addr} {rs : List (Int × Option Int)} {p : Addr} {o : HO} (t : Rows H bs rs) (h : H p = none) : Rows (L2.upd H p o) bs rs := t.upd fun xs e => by rw [h] at e; cases e
theorem Rows.at {H : Hp} {bs : List Addr} {rs : List (Int × Option Int)} {i : Nat} {b : Addr} (t : Rows H bs rs) (h : bs[i]? = some b) : ∃ r, rs[i]? = some r ∧ H b = some (.tup [V.int r.1, optV r.2]) := by
  unfold Rows at t
  induction t generalizing i with
  | nil => simp at h
  | @cons x y l1 l2 r _ ih =>
    cases i with
    | zero =>
      simp at h
      subst h
      exact ⟨y, rfl, r⟩
    | succ j =>
      obtain ⟨d, h1, h2⟩ := ih (i := j) (by simpa using h)
      exact ⟨d, by simpa using h1, h2⟩
theorem ints_lay (ns : List Int) : (PyData.list (ns.map PyData.int)).canLay0 = true := by
  simp [PyData.canLay0]
  induction ns with
  | nil => simp [PyData.canLayAll0]
  | cons x r ih => simp [PyData.canLayAll0, PyData.canLay0, ih]
theorem ints_depth (ns : List Int) : (PyData.list (ns.map PyData.int)).depth ≤ 60 := by
  simp [PyData.depth]
  have : PyData.depthAll (ns.map PyData.int) ≤ 1 := by
    induction ns with
    | nil => simp [PyData.depthAll]
    | cons x r ih => simp [PyData.depthAll, PyData.depth]; omega
  omega
theorem ints_eqv (ns : List Int) : PyData.eqv (PyData.list (ns.map PyData.int)) (PyData.list (ns.map PyData.int)) = true := by
  simp [PyData.eqv]
  induction ns with
  | nil => simp [PyData.eqvAll]
  | cons x r ih => simp [PyData.eqvAll, PyData.eqv, ih]
theorem ints_dats {K : PySem.W.Frag} {H : Hp} : ∀ (ns : List Int), Dats K H (ns.map V.int) (ns.map PyData.int)
  | [] => .nil
  | n :: r => .cons (.int n) (ints_dats r)
/-! ### pairs as data and as triples -/
end RK

set_option autoImplicit false
set_option maxRecDepth 100000
set_option linter.all false
set_option Elab.async false
namespace RK
open PySem
open L2 hiding pv pe_bltn pe_int pe_bl pe_non pe_str pe_lst pe_tup pe_op pe_ix pe_callB pe_callTy pe_call pe_cmpR pe_and pe_or pe_one pe_not pe_slice pe_dget pe_dnewK pe_bm pt_cmp pt_cmpR pt_not pt_val pw_or pw_or1 pw_and pw_and1 pa_nil pa_cons pa_int pa_nm pa_bin pa_sub pa_call pss_cons pss_one pss_nil ps_set ps_if ps_for ps_ret ps_expr ps_dput pg_name pg_tup pgs_nil pgs_cons pi_list pi_range1 po_none po_some pc_isN pe_comp ps_setC pf_nil pc_notN PE PT PW PA PS PSs PC PG PGs PI PO PF
open R hiding ok
/-- a tuple as a target inside a comprehension: the reading names K itself -/
theorem pg_tupC {X : Cx} {K : PySem.W.Frag} {es : List Expr} {pos : Pos} {k n : Nat} {t : TGs} (hK : X.K = K) (hc : X.calm = true) (h : R.PGs X es t) (hn : (assignEach es X.env).length = n := by rfl) (hst : (assignEach es X.env).findIdx? (·.1) = none := by rfl) :
    R.PG X (.Tuple es k pos) (gTup K n t) := by
  subst hK
  exact pg_tup hc h hn hst
end RK

set_option autoImplicit false
set_option maxRecDepth 100000
set_option linter.all false
set_option Elab.async false
namespace RK
open PySem L2
/-! ### rows and moves as data -/
theorem ref_at {bs : List Addr} {i : Nat} {x : V} (h : (bs.map V.ref)[i]? = some x) : ∃ b, bs[i]? = some b ∧ V.ref b = x := by
  rw [List.getElem?_map] at h
  cases e : bs[i]? with
  | none => rw [e] at h; cases h
  | some b => rw [e] at h; exact ⟨b, rfl, Option.some.inj h⟩
abbrev Row := Int × Option Int
/-- the keeper by rows -/
def oldK (rs : List Row) (n : Int) : Option Int := (rs.find? fun r => decide (r.1 = n)).bind (·.2)
def rowsD (rs : List Row) : List (Key × V) := rs.map fun r => ((Sum.inl r.1 : Key), optV r.2)
theorem rows_pairs {H : Hp} : ∀ {bs : List Addr} {rs : List Row}, Rows H bs rs → Paired (fun (b : Addr) (p : Key × V) => H b = some (.tup [kV p.1, p.2])) bs (rowsD rs)
  | _, _, .nil => .nil
  | _, _, .cons h t => .cons h (rows_pairs t)
/-! ### data -/
theorem eqvAll_map {α : Type} (g : α → PyData) (h : ∀ a, PyData.eqv (g a) (g a) = true) : ∀ l : List α, PyData.eqvAll (l.map g) (l.map g) = true
  | [] => by simp [PyData.eqvAll]
  | a :: l => by simp [PyData.eqvAll, h a, eqvAll_map g h l]
theorem layAll_map {α : Type} (g : α → PyData) (h : ∀ a, (g a).canLay0 = true) : ∀ l : List α, PyData.canLayAll0 (l.map g) = true
  | [] => by simp [PyData.canLayAll0]
  | a :: l => by simp [PyData.canLayAll0, h a, layAll_map g h l]
theorem depthAll_map {α : Type} (g : α → PyData) (n : Nat) (h : ∀ a, (g a).depth ≤ n) : ∀ l : List α, PyData.depthAll (l.map g) ≤ n
  | [] => by simp [PyData.depthAll]
  | a :: l => by
    have h1 := h a
    have h2 := depthAll_map g n h l
    simp [PyData.depthAll]
    omega
structure Nice (n : Nat) (d : PyData) : Prop where
  lay : d.canLay0 = true
  dep : d.depth ≤ n
  slf : PyData.eqv d d = true
theorem nice_list {α : Type} {g : α → PyData} {n : Nat} (h : ∀ a, Nice n (g a)) (l : List α) : Nice (n + 1) (.list (l.map g)) := by
  have h1 := depthAll_map g n (fun a => (h a).dep) l
  exact ⟨by simp [PyData.canLay0]; exact layAll_map g (fun a => (h a).lay) l, by simp [PyData.depth]; omega, by simp [PyData.eqv]; exact eqvAll_map g (fun a => (h a).slf) l⟩
def optP : Option Int → PyData
  | none => .none
  | some k => .int k
def rowP (r : Row) : PyData := .tuple [.int r.1, optP r.2]
theorem rowP_nice (r : Row) : Nice 3 (rowP r) := by
  obtain ⟨n, o⟩ := r
  cases o <;> exact ⟨by simp [rowP, optP, PyData.canLay0, PyData.canLayAll0], by simp [rowP, optP, PyData.depth, PyData.depthAll], by simp [rowP, optP, PyData.eqv, PyData.eqvAll]⟩
theorem opt_dat {K : PySem.W.Frag} {H : Hp} (o : Option Int) : Dat K H (optV o) (optP o) := by
  cases o with
  | none => exact .non
  | some k => exact .int k
theorem Rows.dats {K : PySem.W.Frag} {H : Hp} : ∀ {bs : List Addr} {rs : List Row}, Rows H bs rs → Dats K H (bs.map V.ref) (rs.map rowP)
  | _, _, .nil => .nil
  | _, _, .cons h t => .cons (.tup (SqT.of h) (.cons (.int _) (.cons (opt_dat _) .nil))) (Rows.dats t)
theorem ne_same {X : Cx} {H : Hp} {x y : V} {d : PyData} {n : Nat} {Q : VK} (hx : Dat X.K H x d) (hy : Dat X.K H y d) (hd : Nice n d) (hn : n ≤ 60) (q : Q (.bl false) H) : rEqD X true x y H Q := by
  refine ⟨d, d, hx, hy, hd.lay, hd.lay, Nat.le_trans hd.dep hn, ?_⟩
  rw [hd.slf]
  exact q
end RK

set_option autoImplicit false
set_option maxRecDepth 100000
set_option linter.all false
set_option Elab.async false
namespace RK
open PySem L2
/-! ### the one deal -/
section
variable {size each : Int} {kvs : List (Int × Nat)} {names : List Int} {rs rs' : List Row}
open Classical in
end
/-! ### deeds -/
/-- a deed as it is told: any share -/
inductive Tell where
  | put (n : Int)
  | come (k s : Int)
  | leave (k : Int)
  | drop (n : Int)
  | wher (n : Int)
/-- why a deed is refused -/
inductive Rf where
  | kt | ns | nk | nt | nn
  deriving DecidableEq
inductive Deed where
  | refu (t : Tell) (r : Rf)
  | put (n : Int)
  | come (k : Int) (s : Nat)
  | leave (k : Int)
  | drop (n : Int)
  | wher (n : Int)
/-! ### a story's object -/
end RK


set_option autoImplicit false
set_option maxRecDepth 100000
set_option linter.all false
set_option Elab.async false
namespace RK
open PySem L2
/-! ### rows in a dict -/
def putR (rows : List Row) (n : Int) (o : Option Int) : List Row := if (rows.any fun r => decide (r.1 = n)) = true then rows.map (fun r => if r.1 = n then (r.1, o) else r) else rows ++ [(n, o)]
theorem rowsD_put (rows : List Row) (n : Int) (o : Option Int) : putK (rowsD rows) (Sum.inl n : Key) (optV o) = rowsD (putR rows n o) := by
  have e1 : ((rowsD rows).any fun kv => decide (kv.1 = (Sum.inl n : Key))) = (rows.any fun r => decide (r.1 = n)) := by
    unfold rowsD
    rw [List.any_map]
    congr 1
    funext r
    by_cases h : r.1 = n
    · show decide ((Sum.inl r.1 : Key) = Sum.inl n) = _
      rw [decide_eq_true h, decide_eq_true (by rw [h])]
    · show decide ((Sum.inl r.1 : Key) = Sum.inl n) = _
      rw [decide_eq_false h, decide_eq_false (fun z => h (Sum.inl.inj z))]
  unfold putK putR
  rw [e1]
  split
  · unfold rowsD
    rw [List.map_map, List.map_map]
    refine List.map_congr_left fun r _ => ?_
    show (if (Sum.inl r.1 : Key) = Sum.inl n then ((Sum.inl r.1 : Key), optV o) else ((Sum.inl r.1 : Key), optV r.2)) = ((Sum.inl (if r.1 = n then (r.1, o) else r).1 : Key), optV (if r.1 = n then (r.1, o) else r).2)
    by_cases h : r.1 = n
    · rw [if_pos (by rw [h]), if_pos h]
    · rw [if_neg (fun z => h (Sum.inl.inj z)), if_neg h]
  · unfold rowsD
    rw [List.map_append]
    rfl
theorem putR_keys (rows : List Row) (n : Int) (o : Option Int) : (putR rows n o).map (·.1) = if n ∈ rows.map (·.1) then rows.map (·.1) else rows.map (·.1) ++ [n] := by
  have e1 : (rows.any fun r => decide (r.1 = n)) = true ↔ n ∈ rows.map (·.1) := by
    rw [List.any_eq_true]
    constructor
    · rintro ⟨r, hr, e⟩
      exact List.mem_map.mpr ⟨r, hr, of_decide_eq_true e⟩
    · intro h
      obtain ⟨r, hr, e⟩ := List.mem_map.mp h
      exact ⟨r, hr, decide_eq_true e⟩
  unfold putR
  by_cases h : (rows.any fun r => decide (r.1 = n)) = true
  · rw [if_pos h, if_pos (e1.mp h), List.map_map]
    refine List.map_congr_left fun r _ => ?_
    show (if r.1 = n then (r.1, o) else r).1 = r.1
    split <;> rfl
  · rw [if_neg h, if_neg (fun z => h (e1.mpr z)), List.map_append]
    rfl
theorem putR_nodup {rows : List Row} (n : Int) (o : Option Int) (h : (rows.map (·.1)).Nodup) : ((putR rows n o).map (·.1)).Nodup := by
  rw [putR_keys]
  split
  · exact h
  · rename_i hn
    rw [List.nodup_append]
    exact ⟨h, by simp, fun a ha b hb => by rw [List.mem_singleton.mp hb]; exact fun z => hn (z ▸ ha)⟩
theorem putR_ok {rows : List Row} {n : Int} {o : Option Int} (h : ∀ r ∈ rows, TX.RowOk r) (hn : TX.RowOk (n, o)) : ∀ r ∈ putR rows n o, TX.RowOk r := fun r hr => by
  unfold putR at hr
  split at hr
  · obtain ⟨r', hr', rfl⟩ := List.mem_map.mp hr
    split
    · rename_i e
      rw [e]
      exact hn
    · exact h r' hr'
  · rcases List.mem_append.mp hr with hr | hr
    · exact h r hr
    · rw [List.mem_singleton.mp hr]
      exact hn
theorem putR_len (rows : List Row) (n : Int) (o : Option Int) : (putR rows n o).length ≤ rows.length + 1 := by
  unfold putR
  split
  · rw [List.length_map]
    omega
  · rw [List.length_append]
    exact Nat.le_refl _
theorem rowsD_val {n : Int} : ∀ {rs : List Row}, n ∈ rs.map (·.1) → valV (rowsD rs) (Sum.inl n : Key) = some (optV (oldK rs n)) ∧ (n, oldK rs n) ∈ rs
  | r :: q, h => by
    unfold rowsD oldK
    rw [List.map_cons, List.find?_cons]
    by_cases e : r.1 = n
    · rw [decide_eq_true e, valV_pos (by rw [e])]
      refine ⟨rfl, ?_⟩
      have : ((n, r.2) : Row) = r := by rw [← e]
      show ((n, r.2) : Row) ∈ r :: q
      rw [this]
      exact List.mem_cons_self
    · rw [decide_eq_false e, valV_neg (fun z => e (Sum.inl.inj z))]
      have hq : n ∈ q.map (·.1) := by
        rcases List.mem_cons.mp h with z | z
        · exact absurd z.symm e
        · exact z
      obtain ⟨h1, h2⟩ := rowsD_val (rs := q) hq
      exact ⟨h1, List.mem_cons_of_mem _ h2⟩
theorem rowsD_keys (rs : List Row) : ((rowsD rs).map fun kv => kV kv.1) = (rs.map (·.1)).map V.int := by
  unfold rowsD
  rw [List.map_map, List.map_map]
  rfl
theorem pickO {vs : List (Option Int)} {c m : Int} (h : m = vs.length) (h0 : 0 < m) : ∃ v, v ∈ vs ∧ atI (vs.map optV) (c % m) = some (optV v) := by
  have h1 := Int.emod_nonneg c (b := m) (by omega)
  have h2 := Int.emod_lt_of_pos c h0
  obtain ⟨j, hj⟩ := Int.eq_ofNat_of_zero_le h1
  rw [hj] at h2 ⊢
  have hj2 : j < vs.length := by omega
  exact ⟨vs[j], List.getElem_mem hj2, atI_nat (by rw [List.getElem?_map]; simp [hj2])⟩
theorem rows_fun {rows : List Row} (h : (rows.map (·.1)).Nodup) : rows = (rows.map (·.1)).map fun n => (n, oldK rows n) := by
  have hall : ∀ r ∈ rows, (r.1, oldK rows r.1) = r := fun r hr => by
    obtain ⟨_, h2⟩ := rowsD_val (List.mem_map.mpr ⟨r, hr, rfl⟩ : r.1 ∈ rows.map (·.1))
    obtain ⟨i, hi, ei⟩ := List.mem_iff_getElem.mp hr
    obtain ⟨j, hj, ej⟩ := List.mem_iff_getElem.mp h2
    have : (rows.map (·.1))[i]'(by rw [List.length_map]; exact hi) = (rows.map (·.1))[j]'(by rw [List.length_map]; exact hj) := by
      rw [List.getElem_map, List.getElem_map, ei, ej]
    have := (List.getElem_inj h).mp this
    subst this
    exact ej.symm.trans ei
  rw [List.map_map]
  exact (List.map_id rows).symm.trans (List.map_congr_left fun r hr => (hall r hr).symm)
end RK

set_option autoImplicit false
namespace RK
open PySem
def top (i : Nat) : Stmt := PySem.Challenge.pw_ringdeal_k11_deals_on_lines.main.body.getD i (.Pass ⟨0, 0, 0, 0⟩)
abbrev sLine : Stmt := top 10
abbrev sShown : Stmt := top 11
abbrev sIsNum : Stmt := top 12
abbrev sNumOf : Stmt := top 13
abbrev sRowOf : Stmt := top 14
abbrev sRead : Stmt := top 15
abbrev sWhole : Stmt := top 17
abbrev sAreRows : Stmt := top 18
abbrev sRefused : Stmt := top 19
abbrev sUnder : Stmt := top 20
abbrev sDrawn : Stmt := top 21
abbrev sLaw : Stmt := top 22
end RK

set_option autoImplicit false
set_option maxRecDepth 100000
set_option linter.all false
set_option Elab.async false
set_option maxHeartbeats 8000000
namespace RK
open PySem
open L2 hiding pv pe_bltn pe_int pe_bl pe_non pe_str pe_lst pe_tup pe_op pe_ix pe_callB pe_callTy pe_call pe_cmpR pe_and pe_or pe_one pe_not pe_slice pe_dget pe_dnewK pe_bm pt_cmp pt_cmpR pt_not pt_val pw_or pw_or1 pw_and pw_and1 pa_nil pa_cons pa_int pa_nm pa_bin pa_sub pa_call pss_cons pss_one pss_nil ps_set ps_if ps_for ps_ret ps_expr ps_dput pg_name pg_tup pgs_nil pgs_cons pi_list pi_range1 po_none po_some pc_isN pe_comp ps_setC pf_nil pc_notN pe_un pi_range2 ps_raise ph_nil ph_cons ps_tryX pj_nil pj_str pj_int pj_repr pe_join pi_str pe_glob ph_consAs PJ PH PE PT PW PA PS PSs PC PG PGs PI PO PF
open R hiding ok
section
variable {P : Program} {w : World} {K : PySem.W.Frag} {mg : Str → Option Value} {base : Heap} {f : Addr} {fd : FuncData}
def spLine : Sp := fun vs H Q _ => ∃ (n : Int) (o : Option Int), vs = [.int n, optV o] ∧ TX.RowOk (n, o) ∧ Q (.str (TX.line (n, o))) H
theorem scLine : FnScope ["name", "keeper"] ["name", "keeper"] (defScope sLine) := ⟨rfl, rfl, rfl, by decide +kernel, rfl, by decide +kernel, by decide +kernel⟩
theorem small_z {n : Nat} (h : n ≤ 3000) : n ≤ sizeLine := Nat.le_trans h (by decide)
theorem ok_line (F : Fun K "line_of" "line_of" sLine f fd) : FnOk P w K mg base CX0 1 f fd ["name", "keeper"] spLine := by
  refine R.ok F scLine (fun vs H Q E h => ?_) (fun cdv A outer s H vs Q E hr h => ?_)
  · obtain ⟨_, _, rfl, _⟩ := h
    rfl
  · obtain ⟨n, o, rfl, hok, q⟩ := h
    have l1 := TX.num_len hok.n0 hok.n1
    have g1 := TX.num_log hok.n0 hok.n1
    dsimp only at l1 g1
    refine ⟨_, (pss_cons (ps_if (pt_cmp (pc_isN (pv 1))) (pss_one (ps_ret (pe_join (pj_int (pv 0) (pj_str (pj_nil)))))) pss_nil) <|
      pss_one (ps_ret (pe_join (pj_int (pv 0) (pj_str (pj_int (pv 1) (pj_nil))))))), ?_⟩
    cases o with
    | none =>
      have e8 : (Str.ofString " nowhere").length = 8 := by decide +kernel
      refine ⟨_, rfl, _, rfl, iteT ?_⟩
      refine ⟨_, rfl, n, rfl, g1, small_z (by rw [TX.nil_app]; show (TX.num n).length ≤ _; omega), ?_, ?_, ?_⟩
      · refine small_z ?_
        rw [TX.len_app, TX.nil_app]
        show (TX.num n).length + (Str.ofString " nowhere").length ≤ _
        omega
      · refine small_z ?_
        rw [TX.len_app, TX.nil_app]
        show (TX.num n).length + (Str.ofString " nowhere").length ≤ _
        omega
      · rw [TX.nil_app]
        exact q
    | some k =>
      obtain ⟨k0, k1⟩ := hok.k0 k rfl
      have l2 := TX.num_len k0 k1
      have g2 := TX.num_log k0 k1
      have e4 : (Str.ofString " at ").length = 4 := by decide +kernel
      refine ⟨_, rfl, _, rfl, iteF ?_⟩
      refine ⟨_, rfl, n, rfl, g1, small_z (by rw [TX.nil_app]; show (TX.num n).length ≤ _; omega), ?_, ?_⟩
      · refine small_z ?_
        rw [TX.len_app, TX.nil_app]
        show (TX.num n).length + (Str.ofString " at ").length ≤ _
        omega
      · have hl : (Str.empty ++ TX.num n ++ Str.ofString " at " ++ TX.num k).length ≤ 3000 := by
          rw [TX.len_app, TX.len_app, TX.nil_app]
          omega
        refine ⟨_, rfl, k, rfl, g2, small_z hl, small_z hl, ?_⟩
        rw [TX.nil_app]
        exact q
end
end RK

set_option autoImplicit false
set_option maxRecDepth 100000
set_option linter.all false
set_option Elab.async false
set_option maxHeartbeats 8000000
namespace RK
open PySem
open L2 hiding pv pe_bltn pe_int pe_bl pe_non pe_str pe_lst pe_tup pe_op pe_ix pe_callB pe_callTy pe_call pe_cmpR pe_and pe_or pe_one pe_not pe_slice pe_dget pe_dnewK pe_bm pt_cmp pt_cmpR pt_not pt_val pw_or pw_or1 pw_and pw_and1 pa_nil pa_cons pa_int pa_nm pa_bin pa_sub pa_call pss_cons pss_one pss_nil ps_set ps_if ps_for ps_ret ps_expr ps_dput pg_name pg_tup pgs_nil pgs_cons pi_list pi_range1 po_none po_some pc_isN pe_comp ps_setC pf_nil pc_notN pe_un pi_range2 ps_raise ph_nil ph_cons ps_tryX pj_nil pj_str pj_int pj_repr pe_join pi_str pe_glob ph_consAs PJ PH PE PT PW PA PS PSs PC PG PGs PI PO PF
open R hiding ok
section
variable {P : Program} {w : World} {K : PySem.W.Frag} {mg : Str → Option Value} {base : Heap} {f : Addr} {fd : FuncData}
def spShown (K : PySem.W.Frag) : Sp := fun vs H Q _ => ∃ (p : Addr) (bs : List Addr) (rows : List TX.Row), vs = [.ref p] ∧ SqL K H p (bs.map V.ref) ∧ Rows H bs rows ∧ (∀ r ∈ rows, TX.RowOk r) ∧ rows.length ≤ 1000 ∧
  ∀ (H' : Hp) (z : Addr), Same H H' → H z = none → H' z = some (.lst ((rows.map TX.line).map V.str)) → Q (.ref z) H'
theorem scShown : FnScope ["rows"] ["rows"] (defScope sShown) := ⟨rfl, rfl, rfl, by decide +kernel, rfl, by decide +kernel, by decide +kernel⟩
theorem csShown : CScope (defScope sShown) ["rows"] ["name", "keeper"] [none, none] (compScope (retE sShown 0)) :=
  ⟨rfl, by decide +kernel, by decide +kernel, rfl, by decide +kernel, by decide +kernel, fun j i hj h => by
    match j, hj, h with
    | 0, _, h => cases h
    | 1, _, h => cases h⟩
theorem ok_shown (F : Fun K "shown" "shown" sShown f fd) (h1 : Has P w K mg base "line_of" ["name", "keeper"] sLine 1 spLine) : FnOk P w K mg base CX0 2 f fd ["rows"] (spShown K) := by
  obtain ⟨fl, dfl, Al, Gl1⟩ := h1
  refine R.ok F scShown (fun vs H Q E h => ?_) (fun cdv A outer s H vs Q E hr h => ?_)
  · obtain ⟨_, _, _, rfl, _⟩ := h
    rfl
  · obtain ⟨p, bs, rows, rfl, hp, rs, hok, hl, q⟩ := h
    refine ⟨_, (pss_one (ps_ret (pe_comp csShown rfl rfl rfl (pi_list (pv 0)) (fun cl s₀ H₀ fp => pg_tupC (K := K) (n := 2) rfl rfl (pgs_cons (pg_name (i := 0) csShown.nd rfl (Or.inl rfl) (Or.inr rfl)) (pgs_cons (pg_name (i := 1) csShown.nd rfl (Or.inl rfl) (Or.inr rfl)) pgs_nil))) (fun cl s₀ H₀ fp => pf_nil) (fun cl s₀ H₀ fp => pe_call Gl1 hr (by rfl) Al.mgf Al.F.kp Al.b .nil pass0 (pa_nm (pv 0) (pa_nm (pv 1) pa_nil)))))), ?_⟩
    refine ⟨_, rfl, p, rfl, ⟨_, hp⟩, fun z hz => ?_⟩
    refine comp_list (xs := bs.map V.ref) (fun i σ H1 => ∃ v0 v1, σ = [v0, v1] ∧ H1 = upd H z (.lst (((rows.map TX.line).take i).map V.str))) ⟨none, none, rfl, rfl⟩ (fun i σ H1 _ ⟨_, _, _, e⟩ => by rw [e]; exact (Same.upd hz).seq hp) ?_ ?_
    · rintro i x σ H1 hi ⟨v0, v1, rfl, rfl⟩
      obtain ⟨b, hb, rfl⟩ := ref_at hi
      obtain ⟨r, hr0, hbt⟩ := rs.at hb
      have nb : b ≠ z := ne_of_none hbt hz
      have hbt' : (upd H z (.lst (((rows.map TX.line).take i).map V.str))) b = some (.tup [V.int r.1, optV r.2]) := by rw [upd_ne nb]; exact hbt
      have hrm : r ∈ rows := List.mem_of_getElem? hr0
      have hln : (rows.map TX.line)[i]? = some (TX.line r) := by rw [List.getElem?_map, hr0]; rfl
      refine ⟨b, _, rfl, SqT.of hbt', rfl, _, _, rfl, _, _, rfl, rfl, ?_⟩
      refine ⟨_, rfl, _, rfl, r.1, r.2, rfl, hok r hrm, _, upd_same, ?_, _, _, rfl, ?_⟩
      · rw [List.length_map, List.length_take, List.length_map]
        exact small_1000 (by omega)
      · rw [upd_upd, take_snoc hln, List.map_append]
        rfl
    · rintro σ H1 ⟨v0, v1, rfl, rfl⟩
      have e : (bs.map V.ref).length = (rows.map TX.line).length := by rw [List.length_map, List.length_map, rs.length]
      rw [e, List.take_length]
      exact q _ z (Same.upd hz) hz upd_same
end
end RK

set_option autoImplicit false
set_option maxRecDepth 100000
set_option linter.all false
set_option Elab.async false
set_option maxHeartbeats 8000000
namespace RK
open PySem
open L2 hiding pv pe_bltn pe_int pe_bl pe_non pe_str pe_lst pe_tup pe_op pe_ix pe_callB pe_callTy pe_call pe_cmpR pe_and pe_or pe_one pe_not pe_slice pe_dget pe_dnewK pe_bm pt_cmp pt_cmpR pt_not pt_val pw_or pw_or1 pw_and pw_and1 pa_nil pa_cons pa_int pa_nm pa_bin pa_sub pa_call pss_cons pss_one pss_nil ps_set ps_if ps_for ps_ret ps_expr ps_dput pg_name pg_tup pgs_nil pgs_cons pi_list pi_range1 po_none po_some pc_isN pe_comp ps_setC pf_nil pc_notN pe_un pi_range2 ps_raise ph_nil ph_cons ps_tryX pj_nil pj_str pj_int pj_repr pe_join pi_str pe_glob ph_consAs PJ PH PE PT PW PA PS PSs PC PG PGs PI PO PF
open R hiding ok
section
variable {P : Program} {w : World} {K : PySem.W.Frag} {mg : Str → Option Value} {base : Heap} {f : Addr} {fd : FuncData}
def spIsNum : Sp := fun vs H Q _ => ∃ x : Str, vs = [.str x] ∧ TX.Sm x ∧ ∀ H', Same H H' → Q (.bl (TX.isNum x)) H'
def argE (e : Expr) : Expr := match e with
  | .Call _ (a :: _) _ _ => a
  | e => e
theorem scIsNum : FnScope ["word"] ["word"] (defScope sIsNum) := ⟨rfl, rfl, rfl, by decide +kernel, rfl, by decide +kernel, by decide +kernel⟩
theorem csIsNum : CScope (defScope sIsNum) ["word"] ["sign"] [none] (compScope (argE (retE sIsNum 1))) :=
  ⟨rfl, by decide +kernel, by decide +kernel, rfl, by decide +kernel, by decide +kernel, fun j i hj h => by
    match j, hj, h with
    | 0, _, h => cases h⟩
theorem ok_isnum {tk : Tok} (F : Fun K "is_number" "is_number" sIsNum f fd) (hF : mg "FIGURES" = some (.str TX.figs tk)) (hall : mg "all" = none) : FnOk P w K mg base CX0 1 f fd ["word"] spIsNum := by
  refine R.ok F scIsNum (fun vs H Q E h => ?_) (fun cdv A outer s H vs Q E hr h => ?_)
  · obtain ⟨_, rfl, _⟩ := h
    rfl
  · obtain ⟨x, rfl, hx, q⟩ := h
    have q0 := q H fun _ _ e => e
    refine ⟨_, (pss_cons (ps_if ((pw_or (pt_cmpR op_eq (pv 0) (pe_str) (nomark _)) (pw_or1 ((pw_and (pt_cmpR op_eq (pe_ix ix_str (pv 0) (pe_int) (fun _ _ => rfl)) (pe_str) (nomark _)) (pw_and1 (pt_cmpR op_ne (pv 0) (pe_str) (nomark _)))).pt))).pt) (pss_one (ps_ret (pe_bl))) pss_nil) <|
      pss_one (ps_ret (pe_callB (call_allB rfl) (by rfl) hall (by rfl) (pa_cons (pe_comp csIsNum rfl rfl rfl (pi_str (pv 0)) (fun cl s₀ H₀ fp => pg_name (i := 0) csIsNum.nd rfl (Or.inl rfl) (Or.inr rfl)) (fun cl s₀ H₀ fp => pf_nil) (fun cl s₀ H₀ fp => pe_cmpR op_in_str (pv 0) (pe_glob (v := .str TX.figs) (by rfl) hF ⟨_, rfl⟩) (by rfl))) pa_nil)))), ?_⟩
    refine ⟨_, rfl, rfl, _, rfl, ?_⟩
    by_cases h0 : x = Str.ofString ""
    · rw [decide_eq_true (congrArg V.str h0)]
      refine iteT (iteT ?_)
      rw [TX.isNum_nil h0] at q0
      exact q0
    · obtain ⟨c, r, hcr⟩ := TX.cps_ne h0
      rw [decide_eq_false fun z => h0 (V.str.inj z)]
      refine iteF ?_
      refine ⟨_, rfl, x, 0, c, rfl, rfl, ?_, ?_, rfl, _, rfl, ?_⟩
      · have := hx.len
        exact small_z (by omega)
      · show atI (TX.cps x) ((0 : Nat) : Int) = some c
        rw [hcr]
        exact atI_nat rfl
      · by_cases hc : c = 48
        · subst hc
          rw [decide_eq_true (congrArg V.str (TX.one_nought.mpr rfl))]
          refine iteT ?_
          refine ⟨_, rfl, rfl, _, rfl, ?_⟩
          by_cases hr0 : r = []
          · rw [decide_eq_true (congrArg V.str ((TX.nought_rest hcr).mpr hr0))]
            refine iteF ?_
            have he : TX.isNum x = (TX.cps x).all TX.isFig := by rw [TX.isNum_cons hcr, hr0]; rfl
            refine ⟨_, rfl, x, rfl, hx.all, fun z hz => ?_⟩
            refine comp_str (fun i σ H1 => ∃ v0, σ = [v0] ∧ H1 = upd H z (.lst ((((TX.cps x).map TX.isFig).take i).map V.bl))) ⟨none, rfl, rfl⟩ ?_ ?_
            · rintro i c σ H1 hi ⟨v0, rfl, rfl⟩
              have hc : (TX.cps x)[i]? = some c := by show x.cps.toList[i]? = some c; rw [Array.getElem?_toList]; exact hi
              have hm : ((TX.cps x).map TX.isFig)[i]? = some (TX.isFig c) := by rw [List.getElem?_map, hc]; rfl
              have h128 := hx.asc c (List.mem_of_getElem? hc)
              refine ⟨_, rfl, _, _, rfl, rfl, _, upd_same, ?_, _, rfl, ?_⟩
              · rw [List.length_map, List.length_take, List.length_map, ← TX.len_cps]
                have := hx.len
                exact small_1000 (by omega)
              · rw [upd_upd, take_snoc hm, List.map_append, TX.fig_in c h128]
                rfl
            · rintro σ H1 ⟨v0, rfl, rfl⟩
              have e : x.cps.size = ((TX.cps x).map TX.isFig).length := by rw [List.length_map]; exact TX.len_cps x
              rw [e, List.take_length]
              refine ⟨z, _, rfl, upd_same, ?_⟩
              rw [List.all_map]
              have := q _ (Same.upd (o := .lst (((TX.cps x).map TX.isFig).map V.bl)) hz)
              rw [he] at this
              exact this
          · rw [decide_eq_false fun z => hr0 ((TX.nought_rest hcr).mp (V.str.inj z))]
            refine iteT ?_
            have he : TX.isNum x = false := by
              rw [TX.isNum_cons hcr]
              cases r with
              | nil => exact absurd rfl hr0
              | cons d r => rfl
            rw [he] at q0
            exact q0
        · rw [decide_eq_false fun z => hc (TX.one_nought.mp (V.str.inj z))]
          refine iteF (iteF ?_)
          have he : TX.isNum x = (TX.cps x).all TX.isFig := by
            have : (c == 48) = false := by simp [hc]
            rw [TX.isNum_cons hcr, this]
            rfl
          refine ⟨_, rfl, x, rfl, hx.all, fun z hz => ?_⟩
          refine comp_str (fun i σ H1 => ∃ v0, σ = [v0] ∧ H1 = upd H z (.lst ((((TX.cps x).map TX.isFig).take i).map V.bl))) ⟨none, rfl, rfl⟩ ?_ ?_
          · rintro i c σ H1 hi ⟨v0, rfl, rfl⟩
            have hc : (TX.cps x)[i]? = some c := by show x.cps.toList[i]? = some c; rw [Array.getElem?_toList]; exact hi
            have hm : ((TX.cps x).map TX.isFig)[i]? = some (TX.isFig c) := by rw [List.getElem?_map, hc]; rfl
            have h128 := hx.asc c (List.mem_of_getElem? hc)
            refine ⟨_, rfl, _, _, rfl, rfl, _, upd_same, ?_, _, rfl, ?_⟩
            · rw [List.length_map, List.length_take, List.length_map, ← TX.len_cps]
              have := hx.len
              exact small_1000 (by omega)
            · rw [upd_upd, take_snoc hm, List.map_append, TX.fig_in c h128]
              rfl
          · rintro σ H1 ⟨v0, rfl, rfl⟩
            have e : x.cps.size = ((TX.cps x).map TX.isFig).length := by rw [List.length_map]; exact TX.len_cps x
            rw [e, List.take_length]
            refine ⟨z, _, rfl, upd_same, ?_⟩
            rw [List.all_map]
            have := q _ (Same.upd (o := .lst (((TX.cps x).map TX.isFig).map V.bl)) hz)
            rw [he] at this
            exact this
end
end RK

set_option autoImplicit false
set_option maxRecDepth 100000
set_option linter.all false
set_option Elab.async false
set_option maxHeartbeats 8000000
namespace RK
open PySem
open L2 hiding pv pe_bltn pe_int pe_bl pe_non pe_str pe_lst pe_tup pe_op pe_ix pe_callB pe_callTy pe_call pe_cmpR pe_and pe_or pe_one pe_not pe_slice pe_dget pe_dnewK pe_bm pt_cmp pt_cmpR pt_not pt_val pw_or pw_or1 pw_and pw_and1 pa_nil pa_cons pa_int pa_nm pa_bin pa_sub pa_call pss_cons pss_one pss_nil ps_set ps_if ps_for ps_ret ps_expr ps_dput pg_name pg_tup pgs_nil pgs_cons pi_list pi_range1 po_none po_some pc_isN pe_comp ps_setC pf_nil pc_notN pe_un pi_range2 ps_raise ph_nil ph_cons ps_tryX pj_nil pj_str pj_int pj_repr pe_join pi_str pe_glob ph_consAs PJ PH PE PT PW PA PS PSs PC PG PGs PI PO PF
open R hiding ok
section
variable {P : Program} {w : World} {K : PySem.W.Frag} {mg : Str → Option Value} {base : Heap} {f : Addr} {fd : FuncData}
/-- the class NoLine -/
structure NoL (K : PySem.W.Frag) (mg : Str → Option Value) (C : Addr) : Prop where
  mgc : mg "NoLine" = some (.ref C)
  ex : ExcC K C
def spNumOf (C : Addr) : Sp := fun vs H Q E => ∃ x : Str, vs = [.str x] ∧ TX.Sm x ∧ ∀ H', Same H H' → (TX.isNum x = true → Q (.int (TX.valOf x)) H') ∧ (TX.isNum x = false → E (.ref C) none H')
theorem scNumOf : FnScope ["word"] ["word"] (defScope sNumOf) := ⟨rfl, rfl, rfl, by decide +kernel, rfl, by decide +kernel, by decide +kernel⟩
theorem ok_numof {C : Addr} (F : Fun K "number_of" "number_of" sNumOf f fd) (B : Blt mg) (X : NoL K mg C) (h1 : Has P w K mg base "is_number" ["word"] sIsNum 1 spIsNum) : FnOk P w K mg base (CX1 P w K) 2 f fd ["word"] (spNumOf C) := by
  obtain ⟨fn, dfn, An, Gn⟩ := h1
  refine R.okX F scNumOf (fun vs H Q E h => ?_) (fun cdv A outer s H vs Q E hr h => ?_)
  · obtain ⟨_, rfl, _⟩ := h
    rfl
  · obtain ⟨x, rfl, hx, q⟩ := h
    refine ⟨_, (pss_cons (ps_if (pt_not (pt_val (pe_call Gn hr (by rfl) An.mgf An.F.kp An.b .nil pass0 (pa_nm (pv 0) pa_nil)))) (pss_one (ps_raise raisesX rfl (by rfl) X.mgc X.ex (pa_cons (pe_join (pj_repr (pv 0) (pj_str (pj_nil)))) pa_nil))) pss_nil) <|
      pss_one (ps_ret (pe_callTy call_int_text (by rfl) B.int (by rfl) (pa_nm (pv 0) pa_nil)))), ?_⟩
    refine ⟨_, rfl, x, rfl, hx, fun H1 s1 => ⟨_, rfl, ?_⟩⟩
    obtain ⟨q1, q2⟩ := q H1 s1
    cases hn : TX.isNum x with
    | true =>
      refine iteF ?_
      exact ⟨_, rfl, x, _, rfl, TX.int_num hn (by have := hx.len; omega), by have := hx.len; omega, q1 hn⟩
    | false =>
      refine iteT ?_
      have hl := hx.repr
      have e13 : (Str.ofString " is no number").length = 13 := by decide +kernel
      have l2 : (Str.empty ++ reprText x ++ Str.ofString " is no number").length ≤ 3000 := by rw [TX.len_app, TX.nil_app, e13]; omega
      refine ⟨_, rfl, x, rfl, small_z (by omega), small_z (by rw [TX.nil_app]; omega), small_z l2, small_z l2, ?_, q2 hn⟩
      exact small_z (show 1 ≤ 3000 by decide)
end
end RK

set_option autoImplicit false
set_option maxRecDepth 100000
set_option linter.all false
set_option Elab.async false
set_option maxHeartbeats 8000000
namespace RK
open PySem
open L2 hiding pv pe_bltn pe_int pe_bl pe_non pe_str pe_lst pe_tup pe_op pe_ix pe_callB pe_callTy pe_call pe_cmpR pe_and pe_or pe_one pe_not pe_slice pe_dget pe_dnewK pe_bm pt_cmp pt_cmpR pt_not pt_val pw_or pw_or1 pw_and pw_and1 pa_nil pa_cons pa_int pa_nm pa_bin pa_sub pa_call pss_cons pss_one pss_nil ps_set ps_if ps_for ps_ret ps_expr ps_dput pg_name pg_tup pgs_nil pgs_cons pi_list pi_range1 po_none po_some pc_isN pe_comp ps_setC pf_nil pc_notN pe_un pi_range2 ps_raise ph_nil ph_cons ps_tryX pj_nil pj_str pj_int pj_repr pe_join pi_str pe_glob ph_consAs PJ PH PE PT PW PA PS PSs PC PG PGs PI PO PF
open R hiding ok
section
variable {P : Program} {w : World} {K : PySem.W.Frag} {mg : Str → Option Value} {base : Heap} {f : Addr} {fd : FuncData}
def spRowOf (C : Addr) : Sp := fun vs H Q E => ∃ x : Str, vs = [.str x] ∧ TX.Sm x ∧ (∀ r, TX.rowOf x = some r → ∀ (H' : Hp) (b : Addr), Same H H' → H b = none → H' b = some (.tup [.int r.1, optV r.2]) → Q (.ref b) H') ∧ (TX.rowOf x = none → ∀ H', Same H H' → E (.ref C) none H')
theorem scRowOf : FnScope ["line", "words"] ["line"] (defScope sRowOf) := ⟨rfl, rfl, rfl, by decide +kernel, rfl, by decide +kernel, by decide +kernel⟩
theorem ok_rowof {C : Addr} (F : Fun K "row_of" "row_of" sRowOf f fd) (B : Blt mg) (X : NoL K mg C) {fn : Addr} {dfn : FuncData} (An : Fn K mg "number_of" ["word"] sNumOf fn dfn) (Gn : FnOk P w K mg base (CX1 P w K) 2 fn dfn ["word"] (spNumOf C)) : FnOk P w K mg base (CX1 P w K) 3 f fd ["line"] (spRowOf C) := by
  refine R.okX F scRowOf (fun vs H Q E h => ?_) (fun cdv A outer s H vs Q E hr h => ?_)
  · obtain ⟨_, rfl, _⟩ := h
    rfl
  · obtain ⟨x, rfl, hx, q1, q2⟩ := h
    have hl := hx.repr
    have e21 : (Str.ofString " is no line of a row").length = 20 := by decide +kernel
    have l2 : (Str.empty ++ reprText x ++ Str.ofString " is no line of a row").length ≤ 3000 := by rw [TX.len_app, TX.nil_app, e21]; omega
    have hsl := hx.splitLen
    have hxl := hx.len
    refine ⟨_, (pss_cons (ps_set (i := 1) scRowOf.nd rfl (Or.inl rfl) (pe_bm PySem.F.plainAttrs_str PySem.F.slot_str_split PySem.F.type_str_split mt_split (pv 0) (pa_cst (pe_str) pa_nil))) <|
      pss_cons (ps_if ((pw_and (pt_cmpR op_eq (pe_callB call_len_seq (by rfl) B.len (by rfl) (pa_nm (pv 1) pa_nil)) (pe_int) (nomark _)) (pw_and1 (pt_cmpR op_eq (pe_ix ix_list (pv 1) (pe_int) (fun _ _ => rfl)) (pe_str) (nomark _)))).pt) (pss_one (ps_ret (pe_tup (pa_call (pe_call Gn hr (by rfl) An.mgf An.F.kp An.b .nil passX (pa_sub (pe_ix ix_list (pv 1) (pe_int) (fun _ _ => rfl)) pa_nil)) (pa_cst (pe_non) pa_nil))))) pss_nil) <|
      pss_cons (ps_if ((pw_and (pt_cmpR op_eq (pe_callB call_len_seq (by rfl) B.len (by rfl) (pa_nm (pv 1) pa_nil)) (pe_int) (nomark _)) (pw_and1 (pt_cmpR op_eq (pe_ix ix_list (pv 1) (pe_int) (fun _ _ => rfl)) (pe_str) (nomark _)))).pt) (pss_one (ps_ret (pe_tup (pa_call (pe_call Gn hr (by rfl) An.mgf An.F.kp An.b .nil passX (pa_sub (pe_ix ix_list (pv 1) (pe_int) (fun _ _ => rfl)) pa_nil)) (pa_call (pe_call Gn hr (by rfl) An.mgf An.F.kp An.b .nil passX (pa_sub (pe_ix ix_list (pv 1) (pe_int) (fun _ _ => rfl)) pa_nil)) pa_nil))))) pss_nil) <|
      pss_one (ps_raise raisesX rfl (by rfl) X.mgc X.ex (pa_cons (pe_join (pj_repr (pv 0) (pj_str (pj_nil)))) pa_nil))), ?_⟩
    refine ⟨_, rfl, rfl, x, _, rfl, rfl, by decide, by omega, ?_, fun p hp => ?_⟩
    · rw [TX.bl_eq]
      omega
    rw [TX.bl_eq]
    have hsm : ∀ y ∈ Txt.split x TX.bl, TX.Sm y := fun y hy => hx.split hy
    have hro : TX.rowOf x = TX.rowL (Txt.split x TX.bl) := rfl
    generalize Txt.split x TX.bl = ws at *
    have hup : upd H p (.lst (ws.map V.str)) p = some (.lst (ws.map V.str)) := upd_same
    have s1 : Same H (upd H p (.lst (ws.map V.str))) := Same.upd hp
    match ws, hsm, hro, hup, s1 with
    | [], hsm, hro, hup, s1 =>
      refine ⟨_, rfl, p, _, rfl, .inl (SqL.of hup), rfl, _, rfl, iteF (iteF ?_)⟩
      refine ⟨_, rfl, p, _, rfl, .inl (SqL.of hup), rfl, _, rfl, iteF (iteF ?_)⟩
      refine ⟨_, rfl, x, rfl, small_z (by omega), small_z (by rw [TX.nil_app]; omega), small_z l2, small_z l2, small_z (show 1 ≤ 3000 by decide), ?_⟩
      exact q2 hro _ s1
    | [a], hsm, hro, hup, s1 =>
      refine ⟨_, rfl, p, _, rfl, .inl (SqL.of hup), rfl, _, rfl, iteF (iteF ?_)⟩
      refine ⟨_, rfl, p, _, rfl, .inl (SqL.of hup), rfl, _, rfl, iteF (iteF ?_)⟩
      refine ⟨_, rfl, x, rfl, small_z (by omega), small_z (by rw [TX.nil_app]; omega), small_z l2, small_z l2, small_z (show 1 ≤ 3000 by decide), ?_⟩
      exact q2 hro _ s1
    | [a, b], hsm, hro, hup, s1 =>
      refine ⟨_, rfl, p, _, rfl, .inl (SqL.of hup), rfl, _, rfl, iteT ?_⟩
      refine ⟨_, rfl, p, _, 1, V.str b, rfl, rfl, SqL.of hup, rfl, rfl, _, rfl, ?_⟩
      by_cases hb : b = TX.nowh
      · rw [decide_eq_true (congrArg V.str hb)]
        refine iteT ?_
        refine ⟨_, rfl, p, _, 0, V.str a, rfl, rfl, SqL.of hup, rfl, a, rfl, hsm a (by simp), fun H2 s2 => ⟨fun hn => ?_, fun hn => ?_⟩⟩
        · refine ⟨by show 2 ≤ sizeLine; decide, fun t ht => ?_⟩
          refine q1 (TX.valOf a, none) ?_ _ t (s1.trans (s2.tr ht)) (s1.free (s2.free ht)) upd_same
          rw [hro]
          exact if_pos ⟨hb, hn⟩
        · refine q2 ?_ _ (s1.trans s2)
          rw [hro]
          exact if_neg fun z => by rw [hn] at z; cases z.2
      · rw [decide_eq_false fun z => hb (V.str.inj z)]
        refine iteF ?_
        refine ⟨_, rfl, p, _, rfl, .inl (SqL.of hup), rfl, _, rfl, iteF (iteF ?_)⟩
        refine ⟨_, rfl, x, rfl, small_z (by omega), small_z (by rw [TX.nil_app]; omega), small_z l2, small_z l2, small_z (show 1 ≤ 3000 by decide), ?_⟩
        refine q2 ?_ _ s1
        rw [hro]
        exact if_neg fun z => hb z.1
    | [a, b, c], hsm, hro, hup, s1 =>
      refine ⟨_, rfl, p, _, rfl, .inl (SqL.of hup), rfl, _, rfl, iteF (iteF ?_)⟩
      refine ⟨_, rfl, p, _, rfl, .inl (SqL.of hup), rfl, _, rfl, iteT ?_⟩
      refine ⟨_, rfl, p, _, 1, V.str b, rfl, rfl, SqL.of hup, rfl, rfl, _, rfl, ?_⟩
      by_cases hb : b = TX.att
      · rw [decide_eq_true (congrArg V.str hb)]
        refine iteT ?_
        refine ⟨_, rfl, p, _, 0, V.str a, rfl, rfl, SqL.of hup, rfl, a, rfl, hsm a (by simp), fun H2 s2 => ⟨fun hn => ?_, fun hn => ?_⟩⟩
        · refine ⟨_, rfl, p, _, 2, V.str c, rfl, rfl, SqL.of (s2 _ _ hup), rfl, c, rfl, hsm c (by simp), fun H3 s3 => ⟨fun hn3 => ?_, fun hn3 => ?_⟩⟩
          · refine ⟨by show 2 ≤ sizeLine; decide, fun t ht => ?_⟩
            refine q1 (TX.valOf a, some (TX.valOf c)) ?_ _ t (s1.trans (s2.trans (s3.tr ht))) (s1.free (s2.free (s3.free ht))) upd_same
            rw [hro]
            exact if_pos ⟨hb, hn, hn3⟩
          · refine q2 ?_ _ (s1.trans (s2.trans s3))
            rw [hro]
            exact if_neg fun z => by rw [hn3] at z; cases z.2.2
        · refine q2 ?_ _ (s1.trans s2)
          rw [hro]
          exact if_neg fun z => by rw [hn] at z; cases z.2.1
      · rw [decide_eq_false fun z => hb (V.str.inj z)]
        refine iteF ?_
        refine ⟨_, rfl, x, rfl, small_z (by omega), small_z (by rw [TX.nil_app]; omega), small_z l2, small_z l2, small_z (show 1 ≤ 3000 by decide), ?_⟩
        refine q2 ?_ _ s1
        rw [hro]
        exact if_neg fun z => hb z.1
    | a :: b :: c :: d :: ws, hsm, hro, hup, s1 =>
      have n2 : ¬ V.int (((a :: b :: c :: d :: ws).map V.str).length : Nat) = V.int 2 := fun z => by
        have := V.int.inj z
        simp only [List.length_map, List.length_cons] at this
        omega
      have n3 : ¬ V.int (((a :: b :: c :: d :: ws).map V.str).length : Nat) = V.int 3 := fun z => by
        have := V.int.inj z
        simp only [List.length_map, List.length_cons] at this
        omega
      refine ⟨_, rfl, p, _, rfl, .inl (SqL.of hup), rfl, _, rfl, ?_⟩
      rw [decide_eq_false n2]
      refine iteF (iteF ?_)
      refine ⟨_, rfl, p, _, rfl, .inl (SqL.of hup), rfl, _, rfl, ?_⟩
      rw [decide_eq_false n3]
      refine iteF (iteF ?_)
      refine ⟨_, rfl, x, rfl, small_z (by omega), small_z (by rw [TX.nil_app]; omega), small_z l2, small_z l2, small_z (show 1 ≤ 3000 by decide), ?_⟩
      exact q2 hro _ s1
end
end RK

set_option autoImplicit false
set_option maxRecDepth 100000
set_option linter.all false
set_option Elab.async false
set_option maxHeartbeats 8000000
namespace RK
open PySem
open L2 hiding pv pe_bltn pe_int pe_bl pe_non pe_str pe_lst pe_tup pe_op pe_ix pe_callB pe_callTy pe_call pe_cmpR pe_and pe_or pe_one pe_not pe_slice pe_dget pe_dnewK pe_bm pt_cmp pt_cmpR pt_not pt_val pw_or pw_or1 pw_and pw_and1 pa_nil pa_cons pa_int pa_nm pa_bin pa_sub pa_call pss_cons pss_one pss_nil ps_set ps_if ps_for ps_ret ps_expr ps_dput pg_name pg_tup pgs_nil pgs_cons pi_list pi_range1 po_none po_some pc_isN pe_comp ps_setC pf_nil pc_notN pe_un pi_range2 ps_raise ph_nil ph_cons ps_tryX pj_nil pj_str pj_int pj_repr pe_join pi_str pe_glob ph_consAs PJ PH PE PT PW PA PS PSs PC PG PGs PI PO PF
open R hiding ok
section
variable {P : Program} {w : World} {K : PySem.W.Frag} {mg : Str → Option Value} {base : Heap} {f : Addr} {fd : FuncData}
def spRead (K : PySem.W.Frag) (C : Addr) : Sp := fun vs H Q E => ∃ (p : Addr) (xs : List Str), vs = [.ref p] ∧ SqL K H p (xs.map V.str) ∧ (∀ x ∈ xs, TX.Sm x) ∧ xs.length ≤ 100 ∧
  (∀ rows, TX.readFrom none xs = some rows → ∀ (H' : Hp) (z : Addr) (bs : List Addr), Same H H' → H z = none → H' z = some (.lst (bs.map V.ref)) → Rows H' bs rows → Q (.ref z) H') ∧ (TX.readFrom none xs = none → ∀ H', Same H H' → E (.ref C) none H')
theorem scRead : FnScope ["lines", "rows", "line", "row"] ["lines"] (defScope sRead) := ⟨rfl, rfl, rfl, by decide +kernel, rfl, by decide +kernel, by decide +kernel⟩
theorem str_at {xs : List Str} {i : Nat} {v : V} (h : (xs.map V.str)[i]? = some v) : ∃ x, xs[i]? = some x ∧ V.str x = v := by
  rw [List.getElem?_map] at h
  cases e : xs[i]? with
  | none => rw [e] at h; cases h
  | some x => rw [e] at h; exact ⟨x, rfl, Option.some.inj h⟩
theorem ok_read {C : Addr} (F : Fun K "read" "read" sRead f fd) (B : Blt mg) (X : NoL K mg C) {fn : Addr} {dfn : FuncData} (An : Fn K mg "row_of" ["line"] sRowOf fn dfn) (Gn : FnOk P w K mg base (CX1 P w K) 3 fn dfn ["line"] (spRowOf C)) : FnOk P w K mg base (CX1 P w K) 4 f fd ["lines"] (spRead K C) := by
  refine R.okX F scRead (fun vs H Q E h => ?_) (fun cdv A outer s H vs Q E hr h => ?_)
  · obtain ⟨_, _, rfl, _⟩ := h
    rfl
  · obtain ⟨p, xs, rfl, hp, hsm, hxl, q1, q2⟩ := h
    refine ⟨_, (pss_cons (ps_set (i := 1) scRead.nd rfl (Or.inl rfl) (pe_lst pa_nil)) <|
      pss_cons (ps_for ownX rfl (pi_list (pv 0)) (pg_name (i := 2) scRead.nd rfl (Or.inl rfl)) (pss_cons (ps_set (i := 3) scRead.nd rfl (Or.inl rfl) (pe_call Gn hr (by rfl) An.mgf An.F.kp An.b .nil passX (pa_nm (pv 2) pa_nil))) <|
        pss_cons (ps_if ((pw_and (pt_cmpR op_gt (pe_callB call_len_seq (by rfl) B.len (by rfl) (pa_nm (pv 1) pa_nil)) (pe_int) (nomark _)) (pw_and1 (pt_cmpR op_le (pe_ix ix_tup (pv 3) (pe_int) (fun _ _ => rfl)) (pe_ix ix_tup (pe_ix ix_list (pv 1) (pe_un un_neg (pe_int)) (fun _ _ => rfl)) (pe_int) (fun _ _ => rfl)) (nomark _)))).pt) (pss_one (ps_raise raisesX rfl (by rfl) X.mgc X.ex (pa_cons (pe_join (pj_repr (pv 2) (pj_str (pj_nil)))) pa_nil))) pss_nil) <|
        pss_one (ps_expr (pe_bm PySem.F.plainAttrs_list PySem.F.slot_list_append PySem.F.type_list_append mt_append (pv 1) (pa_nm (pv 3) pa_nil))))) <|
      pss_one (ps_ret (pv 1))), ?_⟩
    refine ⟨by show 0 ≤ sizeLine; decide, fun z hz => ?_⟩
    refine ⟨_, rfl, p, rfl, ⟨_, (Same.upd hz).seq hp⟩, ?_⟩
    refine for_list (xs := xs.map V.str) (fun i σ H' => ∃ a2 a3 bs acc, σ = [some (.ref p), some (.ref z), a2, a3] ∧ Same H H' ∧ H' z = some (.lst (bs.map V.ref)) ∧ Rows H' bs acc ∧ acc.length = i ∧ TX.At xs i acc) ⟨_, _, [], [], rfl, Same.upd hz, upd_same, .nil, rfl, TX.at_0⟩ (fun i σ H' _ ⟨_, _, _, _, _, sm, _⟩ => sm.seq hp) ?_ ?_
    · rintro i v σ H1 hi ⟨a2, a3, bs, acc, rfl, sm, hz1, rs, hal, hat⟩
      obtain ⟨x, hx, rfl⟩ := str_at hi
      have hxs : TX.Sm x := hsm x (List.mem_of_getElem? hx)
      have hil : i < xs.length := (List.getElem?_eq_some_iff.mp hx).1
      have hl := hxs.repr
      have e34 : (Str.ofString " isn't behind the name ahead of it").length = 34 := by decide +kernel
      have l2 : (Str.empty ++ reprText x ++ Str.ofString " isn't behind the name ahead of it").length ≤ 3000 := by rw [TX.len_app, TX.nil_app, e34]; omega
      refine ⟨_, rfl, x, rfl, hxs, fun r hr0 H2 b s2 hb hb2 => ?_, fun hr0 H2 s2 => q2 (TX.read_stop1 hat hx hr0) _ (sm.trans s2)⟩
      have hz2 := s2 _ _ hz1
      have rs2 := rs.same s2
      have nbz : z ≠ b := ne_of_none hz1 hb
      have hbs : bs.length = acc.length := rs.length
      have fin : ∀ (hb' : TX.behind (TX.lastN acc) r.1 = true), ∃ a2' a3' bs' acc', [some (V.ref p), some (V.ref z), some (V.str x), some (V.ref b)] = [some (.ref p), some (.ref z), a2', a3'] ∧ Same H (upd H2 z (.lst (bs.map V.ref ++ [V.ref b]))) ∧ (upd H2 z (.lst (bs.map V.ref ++ [V.ref b]))) z = some (.lst (bs'.map V.ref)) ∧ Rows (upd H2 z (.lst (bs.map V.ref ++ [V.ref b]))) bs' acc' ∧ acc'.length = i + 1 ∧ TX.At xs (i + 1) acc' := fun hb' =>
        ⟨_, _, bs ++ [b], acc ++ [r], rfl, same_set (sm.trans s2) hz, by rw [upd_same, List.map_append]; rfl, (rs2.upd fun ys e => by rw [hz2] at e; cases e).snoc (by rw [upd_ne nbz.symm]; exact hb2), by rw [List.length_append, hal]; rfl, TX.read_step hat hx hr0 hb'⟩
      refine ⟨_, rfl, z, _, rfl, .inl (SqL.of hz2), _, _, rfl, rfl, _, rfl, ?_⟩
      rcases List.eq_nil_or_concat bs with rfl | ⟨bs', b', ebs⟩
      · have ha : acc = [] := List.eq_nil_of_length_eq_zero hbs.symm
        subst ha
        refine iteF (iteF ?_)
        refine ⟨_, rfl, .inl ⟨rfl, _, SqL.of hz2⟩, _, rfl, z, _, _, rfl, rfl, hz2, ?_, fin ?_⟩
        · rw [List.length_map, hbs, hal]
          exact small_1000 (by omega)
        · rfl
      · rw [List.concat_eq_append] at ebs
        subst ebs
        obtain ⟨l, hl0, hbl⟩ := rs2.at (i := bs'.length) (b := b') (by simp)
        have hla : TX.lastN acc = some l.1 := by
          unfold TX.lastN
          rw [List.getLast?_eq_getElem?, ← hbs]
          simp only [List.length_append, List.length_cons, List.length_nil, Nat.add_sub_cancel, Nat.zero_add]
          rw [hl0]
          rfl
        have hpos : decide ((0 : Int) < (((bs' ++ [b']).map V.ref).length : Nat)) = true := decide_eq_true (by simp only [List.length_map, List.length_append, List.length_cons, List.length_nil]; omega)
        rw [hpos]
        refine iteT ?_
        refine ⟨_, rfl, b, _, 0, V.int r.1, rfl, rfl, SqT.of hb2, rfl, _, rfl, _, rfl, z, _, -1, V.ref b', rfl, rfl, SqL.of hz2, by rw [List.map_append]; exact atI_last _ _, b', _, 0, V.int l.1, rfl, rfl, SqT.of hbl, rfl, _, _, rfl, rfl, _, rfl, ite2 (fun hc => ?_) fun hc => ?_⟩
        · have hle : r.1 ≤ l.1 := of_decide_eq_true hc
          refine ⟨_, rfl, x, rfl, small_z (by omega), small_z (by rw [TX.nil_app]; omega), small_z l2, small_z l2, small_z (show 1 ≤ 3000 by decide), ?_⟩
          exact q2 (TX.read_stop2 hat hx hr0 (by rw [hla]; exact decide_eq_false (by omega))) _ (sm.trans s2)
        · have hlt : ¬ r.1 ≤ l.1 := fun z => hc (decide_eq_true z)
          refine ⟨_, rfl, .inl ⟨rfl, _, SqL.of hz2⟩, _, rfl, z, _, _, rfl, rfl, hz2, ?_, fin ?_⟩
          · rw [List.length_map, hbs, hal]
            exact small_1000 (by omega)
          · exact (by rw [hla]; exact decide_eq_true (by omega))
    · rintro σ H1 ⟨a2, a3, bs, acc, rfl, sm, hz1, rs, hal, hat⟩
      rw [List.length_map] at hat
      exact ⟨_, rfl, q1 acc (TX.read_end hat) _ z bs sm hz hz1 rs⟩
end
end RK

set_option autoImplicit false
set_option maxRecDepth 100000
set_option linter.all false
set_option Elab.async false
set_option maxHeartbeats 8000000
namespace RK
open PySem L2
section
variable {P : Program} {w : World} {K : PySem.W.Frag} {mg : Str → Option Value} {base : Heap} {f : Addr} {fd : FuncData}
theorem scWhole : FnScope ["_law_found"] ["_law_found"] (defScope sWhole) := ⟨rfl, rfl, rfl, by decide +kernel, rfl, by decide +kernel, by decide +kernel⟩
theorem ok_whole (F : Fun K "_law_whole" "_law_whole" sWhole f fd) (B : Blt mg) : FnOk P w K mg base CX0 1 f fd ["_law_found"] spWhole := by
  refine F.ok scWhole (fun vs H Q E h => ?_) (fun cdv A outer s H vs Q E hr h => ?_)
  · obtain ⟨_, rfl, _⟩ := h
    rfl
  · obtain ⟨i, rfl, k⟩ := h
    refine ⟨_, pss_one (ps_ret (pe_and (pe_callB call_isinst (by rfl) B.isinstance (by rfl) (pa_cons (pv 0) (pa_cons (pe_bltn (v := .ty "int") (by rfl) B.int PyProof.Rows.boot_int rfl) pa_nil)))
      (pe_one (pe_not (pe_callB call_isinst (by rfl) B.isinstance (by rfl) (pa_cons (pv 0) (pa_cons (pe_bltn (v := .ty "bool") (by rfl) B.bool (by rfl) rfl) pa_nil))))))), ?_⟩
    refine ⟨_, rfl, _, _, _, _, rfl, .int i, kit_eq _ _, true, rfl, iteT ?_⟩
    exact ⟨_, rfl, _, _, _, _, rfl, .int i, kit_int_bool _, false, rfl, k⟩
end
end RK

set_option autoImplicit false
set_option maxRecDepth 100000
set_option linter.all false
set_option Elab.async false
set_option maxHeartbeats 8000000
namespace RK
open PySem
open L2 hiding pv pe_bltn pe_int pe_bl pe_non pe_str pe_lst pe_tup pe_op pe_ix pe_callB pe_callTy pe_call pe_cmpR pe_and pe_or pe_one pe_not pe_slice pe_dget pe_dnewK pe_bm pt_cmp pt_cmpR pt_not pt_val pw_or pw_or1 pw_and pw_and1 pa_nil pa_cons pa_int pa_nm pa_bin pa_sub pa_call pss_cons pss_one pss_nil ps_set ps_if ps_for ps_ret ps_expr ps_dput pg_name pg_tup pgs_nil pgs_cons pi_list pi_range1 po_none po_some pc_isN pe_comp ps_setC pf_nil pc_notN PE PT PW PA PS PSs PC PG PGs PI PO PF
open R hiding ok
section
variable {P : Program} {w : World} {K : PySem.W.Frag} {mg : Str → Option Value} {base : Heap} {f : Addr} {fd : FuncData}
def spAreRows (K : PySem.W.Frag) : Sp := fun vs H Q _ => ∃ (p l : Addr) (bs : List Addr) (names ns : List Int) (μ : Int → Option Int), vs = [.ref p, .ref l] ∧ H p = some (.lst (bs.map V.ref)) ∧ Rows H bs (ns.map fun n => (n, μ n)) ∧ SqL K H l (names.map V.int) ∧ ns.Perm names ∧ ns.Pairwise (· ≤ ·) ∧ names.length ≤ 63 ∧
  ∀ H', Same H H' → Q (.bl true) H'
theorem scAreRows : FnScope ["_law_found", "_law_names", "_law_row"] ["_law_found", "_law_names"] (defScope sAreRows) := ⟨rfl, rfl, rfl, by decide +kernel, rfl, by decide +kernel, by decide +kernel⟩
def cmpL (e : Expr) : Expr := match e with
  | .Compare a _ _ _ => a
  | e => e
theorem csAreRows : CScope (defScope sAreRows) ["_law_found", "_law_names", "_law_row"] ["_law_row"] [none] (compScope (cmpL (retE sAreRows 2))) :=
  ⟨rfl, by decide +kernel, by decide +kernel, rfl, by decide +kernel, by decide +kernel, fun j i hj h => by
    match j, hj, h with
    | 0, _, h => cases h⟩
theorem ok_arerows (F : Fun K "_law_are_rows" "_law_are_rows" sAreRows f fd) (B : Blt mg) (h1 : Has P w K mg base "_law_whole" ["_law_found"] sWhole 1 spWhole) : FnOk P w K mg base CX0 2 f fd ["_law_found", "_law_names"] (spAreRows K) := by
  obtain ⟨fw, dfw, Aw, Gw⟩ := h1
  refine R.ok F scAreRows (fun vs H Q E h => ?_) (fun cdv A outer s H vs Q E hr h => ?_)
  · obtain ⟨_, _, _, _, _, _, rfl, _⟩ := h
    rfl
  · obtain ⟨p, l, bs, names, ns, μ, rfl, hp, rs, hl, hpm, hsrt, hnl, q⟩ := h
    have hu := hu_of hr
    have hu60 := Nat.lt_of_le_of_lt (Nat.add_le_add_left (by decide : 60 ≤ 64) _) hr.units
    refine ⟨_, (pss_cons (ps_if ((pw_or (pt_not (pt_val (pe_callB call_isinst (by rfl) B.isinstance (by rfl) (pa_nm (pv 0) (pa_nm (pe_bltn (v := .ty "list") (by rfl) B.list (by rfl) rfl) pa_nil))))) (pw_or1 (pt_cmpR op_ne (pe_callB call_len_seq (by rfl) B.len (by rfl) (pa_nm (pv 0) pa_nil)) (pe_callB call_len_seq (by rfl) B.len (by rfl) (pa_nm (pv 1) pa_nil)) (nomark _)))).pt) pss_never pss_nil) <|
      pss_cons (ps_for PassesOwn.never rfl (pi_list (pv 0)) (pg_name (i := 2) scAreRows.nd rfl (Or.inl rfl)) (pss_cons (ps_if ((pw_or (pt_not (pt_val (pe_callB call_isinst (by rfl) B.isinstance (by rfl) (pa_nm (pv 2) (pa_nm (pe_bltn (v := .ty "tuple") (by rfl) B.tuple (by rfl) rfl) pa_nil))))) (pw_or (pt_cmpR op_ne (pe_callB call_len_seq (by rfl) B.len (by rfl) (pa_nm (pv 2) pa_nil)) (pe_int) (nomark _)) (pw_or1 (pt_not (pt_val (pe_call Gw hr (by rfl) Aw.mgf Aw.F.kp Aw.b .nil pass0 (pa_sub (pe_ix ix_tup (pv 2) (pe_int) (fun _ _ => rfl)) pa_nil))))))).pt) pss_never pss_nil) <|
        pss_one (ps_if ((pw_and (pt_cmp (pc_notN (pe_ix ix_tup (pv 2) (pe_int) (fun _ _ => rfl)))) (pw_and1 (pt_not (pt_val (pe_call Gw hr (by rfl) Aw.mgf Aw.F.kp Aw.b .nil pass0 (pa_sub (pe_ix ix_tup (pv 2) (pe_int) (fun _ _ => rfl)) pa_nil)))))).pt) pss_never pss_nil))) <|
      pss_one (ps_ret (pe_cmpR (op_eqD hu60) (pe_comp csAreRows rfl rfl rfl (pi_list (pv 0)) (fun cl s₀ H₀ fp => pg_name (i := 0) csAreRows.nd rfl (Or.inl rfl) (Or.inr rfl)) (fun cl s₀ H₀ fp => pf_nil) (fun cl s₀ H₀ fp => pe_ix (r := rIxT K) ix_tup (pv 0) (pe_int) (fun _ _ => rfl))) (pe_callB call_sortedI (by rfl) B.sorted (by rfl) (pa_nm (pv 1) pa_nil)) (nomark _)))), ?_⟩
    have hlb : bs.length = names.length := by
      rw [rs.length, List.length_map, hpm.length_eq]
    refine ⟨_, rfl, _, _, _, _, rfl, .lst hp, kit_eq _ _, _, rfl, iteF ?_⟩
    refine ⟨_, rfl, p, _, rfl, .inl (SqL.of hp), _, rfl, l, _, rfl, .inl hl, rfl, _, rfl, iteNS (by rw [List.length_map, List.length_map, hlb]) ?_⟩
    refine ⟨_, rfl, p, rfl, ⟨_, SqL.of hp⟩, ?_⟩
    refine for_list (xs := bs.map V.ref) (fun i σ H' => ∃ a2, σ = [some (.ref p), some (.ref l), a2] ∧ H' = H) ⟨_, rfl, rfl⟩ (fun i σ H' _ ⟨_, _, e⟩ => by rw [e]; exact SqL.of hp) ?_ ?_
    · rintro i x σ H' hi ⟨a2, rfl, rfl⟩
      obtain ⟨b, hb, rfl⟩ := ref_at hi
      obtain ⟨r, hr0, hbt⟩ := rs.at hb
      refine ⟨_, rfl, _, _, _, _, rfl, .tup hbt, kit_eq _ _, _, rfl, iteF ?_⟩
      refine ⟨_, rfl, b, _, rfl, .inr (SqT.of hbt), rfl, _, rfl, iteNS rfl ?_⟩
      refine ⟨_, rfl, b, _, 0, V.int r.1, rfl, rfl, SqT.of hbt, rfl, _, rfl, _, rfl, iteF ?_⟩
      refine ⟨_, rfl, b, _, 1, optV r.2, rfl, rfl, SqT.of hbt, rfl, _, rfl, ?_⟩
      cases hr2 : r.2 with
      | none => exact ⟨_, rfl, rfl⟩
      | some k =>
        rw [hr2] at hbt
        exact ⟨_, rfl, b, _, 1, V.int k, rfl, rfl, SqT.of hbt, rfl, _, rfl, _, rfl, _, rfl, rfl⟩
    · rintro σ H' ⟨a2, rfl, rfl⟩
      refine ⟨_, rfl, p, rfl, ⟨_, SqL.of hp⟩, fun pz hpz => ?_⟩
      have npp : p ≠ pz := ne_of_none hp hpz
      refine comp_list (xs := bs.map V.ref) (fun i σ H1 => ∃ v, σ = [v] ∧ H1 = upd H' pz (.lst ((ns.take i).map V.int))) ⟨none, rfl, rfl⟩ (fun i σ H1 _ ⟨_, _, e⟩ => by rw [e]; exact SqL.of (by rw [upd_ne npp]; exact hp)) ?_ ?_
      · rintro i x σ H1 hi ⟨v, rfl, rfl⟩
        obtain ⟨b, hb, rfl⟩ := ref_at hi
        obtain ⟨r, hr0, hbt⟩ := rs.at hb
        rw [List.getElem?_map] at hr0
        obtain ⟨n, hn, rfl⟩ : ∃ n, ns[i]? = some n ∧ (n, μ n) = r := by
          cases e : ns[i]? with
          | none => rw [e] at hr0; cases hr0
          | some n => rw [e] at hr0; exact ⟨n, rfl, Option.some.inj hr0⟩
        have nb : b ≠ pz := ne_of_none hbt hpz
        have hbt' : (upd H' pz (.lst ((ns.take i).map V.int))) b = some (.tup [V.int n, optV (μ n)]) := by rw [upd_ne nb]; exact hbt
        refine ⟨_, rfl, b, _, 0, V.int n, rfl, rfl, SqT.of hbt', rfl, _, upd_same, ?_, _, rfl, ?_⟩
        · rw [List.length_map, List.length_take]
          have := hpm.length_eq
          exact small_1000 (by omega)
        · rw [upd_upd, take_snoc hn, List.map_append]
          rfl
      · rintro σ H1 ⟨v, rfl, rfl⟩
        have e : (bs.map V.ref).length = ns.length := by rw [List.length_map, hlb, hpm.length_eq]
        rw [e, List.take_length]
        have s1 : Same H' (upd H' pz (.lst (ns.map V.int))) := Same.upd hpz
        refine ⟨_, rfl, l, names, rfl, s1.seq hl, by omega, fun l2 ns2 hl2 hpm2 hsrt2 => ?_⟩
        have e2 : ns2 = ns := (hpm2.trans hpm.symm).eq_of_pairwise (fun a b _ _ h1 h2 => by omega) hsrt2 hsrt
        subst e2
        refine ⟨_, _, .lst (SqL.of (Same.upd hl2 _ _ upd_same)) (ints_dats ns2), .lst (SqL.of upd_same) (ints_dats ns2), ints_lay _, ints_lay _, ints_depth _, ?_⟩
        rw [ints_eqv]
        exact q _ (s1.tr hl2)
end
end RK

set_option autoImplicit false
set_option maxRecDepth 100000
set_option linter.all false
set_option Elab.async false
set_option maxHeartbeats 8000000
namespace RK
open PySem
open L2 hiding pv pe_bltn pe_int pe_bl pe_non pe_str pe_lst pe_tup pe_op pe_ix pe_callB pe_callTy pe_call pe_cmpR pe_and pe_or pe_one pe_not pe_slice pe_dget pe_dnewK pe_bm pt_cmp pt_cmpR pt_not pt_val pw_or pw_or1 pw_and pw_and1 pa_nil pa_cons pa_int pa_nm pa_bin pa_sub pa_call pss_cons pss_one pss_nil ps_set ps_if ps_for ps_ret ps_expr ps_dput pg_name pg_tup pgs_nil pgs_cons pi_list pi_range1 po_none po_some pc_isN pe_comp ps_setC pf_nil pc_notN pe_un pi_range2 ps_raise ph_nil ph_cons ps_tryX pj_nil pj_str pj_int pj_repr pe_join pi_str pe_glob ph_consAs PJ PH PE PT PW PA PS PSs PC PG PGs PI PO PF
open R hiding ok
section
variable {P : Program} {w : World} {K : PySem.W.Frag} {mg : Str → Option Value} {base : Heap} {f : Addr} {fd : FuncData}
def spRefused (K : PySem.W.Frag) : Sp := fun vs H Q _ => ∃ (p : Addr) (xs : List Str), vs = [.ref p] ∧ SqL K H p (xs.map V.str) ∧ (∀ x ∈ xs, TX.Sm x) ∧ xs.length ≤ 100 ∧ TX.readFrom none xs = none ∧ ∀ H', Same H H' → Q (.bl true) H'
theorem scRefused : FnScope ["_law_lines"] ["_law_lines"] (defScope sRefused) := ⟨rfl, rfl, rfl, by decide +kernel, rfl, by decide +kernel, by decide +kernel⟩
theorem ok_refused {C fr : Addr} {dfr : FuncData} (F : Fun K "_law_refused" "_law_refused" sRefused f fd) (X : NoL K mg C) (hm : PySem.W.mroIn K C (.ref C) = some true) (Ar : Fn K mg "read" ["lines"] sRead fr dfr) (Gr : FnOk P w K mg base (CX1 P w K) 4 fr dfr ["lines"] (spRead K C)) : FnOk P w K mg base CX0 5 f fd ["_law_lines"] (spRefused K) := by
  refine R.ok F scRefused (fun vs H Q E h => ?_) (fun cdv A outer s H vs Q E hr h => ?_)
  · obtain ⟨_, _, rfl, _⟩ := h
    rfl
  · obtain ⟨p, xs, rfl, hp, hsm, hl, hn, q⟩ := h
    refine ⟨_, (pss_cons (ps_tryX rfl rfl (fun E1 xe ps hp => pss_one (ps_expr (pe_call Gr hr (by rfl) Ar.mgf Ar.F.kp Ar.b .nil hp (pa_nm (pv 0) pa_nil)))) (ph_cons (by rfl) X.mgc X.ex (fun v => pss_one (ps_ret pe_bl)) ph_nil)) <| pss_never), ?_⟩
    exact ⟨_, rfl, p, xs, rfl, hp, hsm, hl, fun rows e => (by rw [hn] at e; cases e), fun _ H1 s1 σ' _ => ⟨C, rfl, .inl ⟨hm, q H1 s1⟩⟩⟩
end
end RK

set_option autoImplicit false
set_option maxRecDepth 100000
set_option linter.all false
set_option Elab.async false
set_option maxHeartbeats 8000000
namespace RK
open PySem
open L2 hiding pv pe_bltn pe_int pe_bl pe_non pe_str pe_lst pe_tup pe_op pe_ix pe_callB pe_callTy pe_call pe_cmpR pe_and pe_or pe_one pe_not pe_slice pe_dget pe_dnewK pe_bm pt_cmp pt_cmpR pt_not pt_val pw_or pw_or1 pw_and pw_and1 pa_nil pa_cons pa_int pa_nm pa_bin pa_sub pa_call pss_cons pss_one pss_nil ps_set ps_if ps_for ps_ret ps_expr ps_dput pg_name pg_tup pgs_nil pgs_cons pi_list pi_range1 po_none po_some pc_isN pe_comp ps_setC pf_nil pc_notN pe_un pi_range2 ps_raise ph_nil ph_cons ps_tryX pj_nil pj_str pj_int pj_repr pe_join pi_str pe_glob ph_consAs PJ PH PE PT PW PA PS PSs PC PG PGs PI PO PF
open R hiding ok
section
variable {P : Program} {w : World} {K : PySem.W.Frag} {mg : Str → Option Value} {base : Heap} {f : Addr} {fd : FuncData}
inductive Rx | nk | kt | ns | nn | nt | nl
  deriving DecidableEq
def Rx.b : Rx → Bool
  | .nl => true
  | _ => false
/-- the classes of refusals, seen from NoLine -/
structure Exx (K : PySem.W.Frag) (mg : Str → Option Value) (c : Rx → Addr) (Rg : Addr) : Prop where
  mgx : ∀ r, mg (match r with | .nk => "NoKeeper" | .kt => "KeeperThere" | .ns => "NoShare" | .nn => "NoName" | .nt => "NameThere" | .nl => "NoLine") = some (.ref (c r))
  mgr : mg "RingError" = some (.ref Rg)
  exr : ExcC K Rg
  k : ExcK K (c .nl)
  under : PySem.W.mroIn K (c .nl) (.ref Rg) = some true
  is : ∀ r, PySem.W.kitOne K (.ref (c .nl)) (.ref (c r)) = some r.b
  ve : PySem.W.kitOne K (.ref (c .nl)) (.type "ValueError") = some true
def cRx (e1 e2 e3 e4 e5 e6 : Addr) : Rx → Addr
  | .nk => e1
  | .kt => e2
  | .ns => e3
  | .nn => e4
  | .nt => e5
  | .nl => e6
theorem scUnder : FnScope ["_law_lines", "e", "_law_kinds"] ["_law_lines"] (defScope sUnder) := ⟨rfl, rfl, rfl, by decide +kernel, rfl, by decide +kernel, by decide +kernel⟩
theorem ok_under {fr Rg : Addr} {dfr : FuncData} {c : Rx → Addr} (F : Fun K "_law_under_base" "_law_under_base" sUnder f fd) (B : Blt mg) (hve : mg "ValueError" = none) (X : Exx K mg c Rg) (Ar : Fn K mg "read" ["lines"] sRead fr dfr) (Gr : FnOk P w K mg base (CX1 P w K) 4 fr dfr ["lines"] (spRead K (c .nl))) : FnOk P w K mg base CX0 5 f fd ["_law_lines"] (spRefused K) := by
  refine R.ok F scUnder (fun vs H Q E h => ?_) (fun cdv A outer s H vs Q E hr h => ?_)
  · obtain ⟨_, _, rfl, _⟩ := h
    rfl
  · obtain ⟨p, xs, rfl, hp, hsm, hl, hn, q⟩ := h
    refine ⟨_, (pss_cons (ps_tryX rfl rfl (fun E1 xe ps hp => pss_one (ps_expr (pe_call Gr hr (by rfl) Ar.mgf Ar.F.kp Ar.b .nil hp (pa_nm (pv 0) pa_nil)))) (ph_consAs (i := 1) rfl scUnder.nd rfl rfl (by rfl) X.mgr X.exr (fun v => pss_cons (ps_set (i := 2) scUnder.nd rfl (Or.inl rfl) (pe_lst ((pa_call (pe_callB (r := rIsE K) call_isinstE (by rfl) B.isinstance (by rfl) (pa_nm (pv 1) (pa_nm (pe_glob (v := .ref (c .nk)) (by rfl) (X.mgx .nk) rfl) pa_nil))) (pa_call (pe_callB (r := rIsE K) call_isinstE (by rfl) B.isinstance (by rfl) (pa_nm (pv 1) (pa_nm (pe_glob (v := .ref (c .kt)) (by rfl) (X.mgx .kt) rfl) pa_nil))) (pa_call (pe_callB (r := rIsE K) call_isinstE (by rfl) B.isinstance (by rfl) (pa_nm (pv 1) (pa_nm (pe_glob (v := .ref (c .ns)) (by rfl) (X.mgx .ns) rfl) pa_nil))) pa_nil)))))) <| pss_cons (ps_set (i := 2) scUnder.nd rfl (Or.inl rfl) (pe_op op_cat (pv 2) (pe_lst ((pa_call (pe_callB (r := rIsE K) call_isinstE (by rfl) B.isinstance (by rfl) (pa_nm (pv 1) (pa_nm (pe_glob (v := .ref (c .nn)) (by rfl) (X.mgx .nn) rfl) pa_nil))) (pa_call (pe_callB (r := rIsE K) call_isinstE (by rfl) B.isinstance (by rfl) (pa_nm (pv 1) (pa_nm (pe_glob (v := .ref (c .nt)) (by rfl) (X.mgx .nt) rfl) pa_nil))) (pa_call (pe_callB (r := rIsE K) call_isinstE (by rfl) B.isinstance (by rfl) (pa_nm (pv 1) (pa_nm (pe_glob (v := .ref (c .nl)) (by rfl) (X.mgx .nl) rfl) pa_nil))) pa_nil))))))) <| pss_one (ps_ret (pe_and (pe_callB (r := rIsE K) call_isinstE (by rfl) B.isinstance (by rfl) (pa_nm (pv 1) (pa_nm (pe_bltn (v := .ty "ValueError") (by rfl) hve (by rfl) rfl) pa_nil))) (pe_one (pe_cmpR op_eq (show PE _ _ (tBM K "list" rCountB (tVar 2) (tCons (tC (.bl true)) tNil)) from pe_bm PySem.F.plainAttrs_list PySem.F.slot_list_count PySem.F.type_list_count mt_countB (pv 2) (pa_cst pe_bl pa_nil)) pe_int (nomark _)))))) ph_nil)) <| pss_never), ?_⟩
    refine ⟨_, rfl, p, xs, rfl, hp, hsm, hl, fun rows e => (by rw [hn] at e; cases e), fun _ H1 s1 σ' hσ => ⟨c .nl, rfl, .inl ⟨X.under, fun a hna => ?_⟩⟩⟩
    have s2 : Same H1 (upd H1 a (.ext (ExcAt a (c .nl)))) := Same.upd hna
    have ha : upd H1 a (.ext (ExcAt a (c .nl))) a = some (.ext (ExcAt a (c .nl))) := upd_same
    match σ', hσ with
    | [b0, b1, b2], _ =>
      refine ⟨_, rfl, a, c .nl, _, _, _, rfl, .ref (c .nk), ha, X.k, X.is .nk, _, rfl, a, c .nl, _, _, _, rfl, .ref (c .kt), ha, X.k, X.is .kt, _, rfl, a, c .nl, _, _, _, rfl, .ref (c .ns), ha, X.k, X.is .ns, by show 3 ≤ sizeLine; decide, fun k hk => ?_⟩
      have nak : a ≠ k := ne_of_none ha hk
      have ha2 : upd (upd H1 a (.ext (ExcAt a (c .nl)))) k (.lst [.bl false, .bl false, .bl false]) a = some (.ext (ExcAt a (c .nl))) := by rw [upd_ne nak]; exact ha
      refine ⟨_, rfl, _, rfl, a, c .nl, _, _, _, rfl, .ref (c .nn), ha2, X.k, X.is .nn, _, rfl, a, c .nl, _, _, _, rfl, .ref (c .nt), ha2, X.k, X.is .nt, _, rfl, a, c .nl, _, _, _, rfl, .ref (c .nl), ha2, X.k, X.is .nl, by show 3 ≤ sizeLine; decide, fun k2 hk2 => ?_⟩
      have nak2 : a ≠ k2 := ne_of_none ha2 hk2
      have nkk : k ≠ k2 := ne_of_none upd_same hk2
      refine ⟨k, k2, [.bl false, .bl false, .bl false], [.bl false, .bl false, .bl true], rfl, rfl, by rw [upd_ne nkk, upd_same]; rfl, by rw [upd_same]; rfl, by show 6 ≤ sizeLine; decide, fun k3 hk3 => ?_⟩
      have ha3 := ne_of_none (H := upd (upd (upd H1 a (.ext (ExcAt a (c .nl)))) k (.lst [.bl false, .bl false, .bl false])) k2 (.lst [.bl false, .bl false, .bl true])) (a := a) (o := .ext (ExcAt a (c .nl))) (by rw [upd_ne nak2]; exact ha2) hk3
      refine ⟨_, rfl, a, c .nl, _, _, _, rfl, .ty "ValueError", by rw [upd_ne ha3, upd_ne nak2]; exact ha2, X.k, X.ve, _, rfl, iteT ?_⟩
      refine ⟨_, rfl, .inl ⟨rfl, _, SqL.of upd_same⟩, k3, [false, false, false, false, false, true], true, rfl, rfl, upd_same, rfl, ?_⟩
      exact q _ (((s1.tr hna).tr hk).trans ((Same.upd hk2).trans (Same.upd hk3)))
end
end RK

set_option autoImplicit false
set_option maxRecDepth 100000
set_option linter.all false
set_option Elab.async false
set_option maxHeartbeats 8000000
namespace RK
open PySem
open L2 hiding pv pe_bltn pe_int pe_bl pe_non pe_str pe_lst pe_tup pe_op pe_ix pe_callB pe_callTy pe_call pe_cmpR pe_and pe_or pe_one pe_not pe_slice pe_dget pe_dnewK pe_bm pt_cmp pt_cmpR pt_not pt_val pw_or pw_or1 pw_and pw_and1 pa_nil pa_cons pa_int pa_nm pa_bin pa_sub pa_call pss_cons pss_one pss_nil ps_set ps_if ps_for ps_ret ps_expr ps_dput pg_name pg_tup pgs_nil pgs_cons pi_list pi_range1 po_none po_some pc_isN pe_comp ps_setC pf_nil pc_notN pe_un pi_range2 ps_raise ph_nil ph_cons ps_tryX pj_nil pj_str pj_int pj_repr pe_join pi_str pe_glob ph_consAs PJ PH PE PT PW PA PS PSs PC PG PGs PI PO PF
open R hiding ok
section
variable {P : Program} {w : World} {K : PySem.W.Frag} {mg : Str → Option Value} {base : Heap} {f : Addr} {fd : FuncData}
structure Drawn (rows : List Row) : Prop where
  ok : ∀ r ∈ rows, TX.RowOk r
  srt : (rows.map (·.1)).Pairwise (· < ·)
  len : rows.length ≤ 63
def spDrawn (K : PySem.W.Frag) : Sp := fun vs H Q _ => ∃ (p : Addr) (cells : List Int), vs = [.ref p] ∧ SqL K H p (cells.map V.int) ∧ cells.length ≤ 63 ∧
  ∀ (H' : Hp) (z : Addr) (bs : List Addr) (rows : List Row), Same H H' → H z = none → H' z = some (.lst (bs.map V.ref)) → Rows H' bs rows → Drawn rows → Q (.ref z) H'
theorem lt_of_le {ns : List Int} (h : ns.Pairwise (· ≤ ·)) (nd : ns.Nodup) : ns.Pairwise (· < ·) := by
  induction ns with
  | nil => exact .nil
  | cons a r ih =>
    rw [List.pairwise_cons] at h ⊢
    rw [List.nodup_cons] at nd
    refine ⟨fun b hb => ?_, ih h.2 nd.2⟩
    have h1 := h.1 b hb
    have h2 : a ≠ b := fun z => nd.1 (z ▸ hb)
    omega
theorem scDrawn : FnScope ["_law_cells", "_law_keepers", "_law_k", "_law_cell", "_law_large", "_law_some", "_law_name", "_law_more"] ["_law_cells"] (defScope sDrawn) := ⟨rfl, rfl, rfl, by decide +kernel, rfl, by decide +kernel, by decide +kernel⟩
theorem csDrawn : CScope (defScope sDrawn) ["_law_cells", "_law_keepers", "_law_k", "_law_cell", "_law_large", "_law_some", "_law_name", "_law_more"] ["_law_name", "_law_keepers"] [none, some 1] (compScope (retE sDrawn 2)) :=
  ⟨rfl, by decide +kernel, by decide +kernel, rfl, by decide +kernel, by decide +kernel, fun j i hj h => by
    match j, hj, h with
    | 0, _, h => cases h
    | 1, _, h => cases h; exact ⟨_, rfl, rfl, by decide +kernel⟩⟩
theorem ok_drawn (F : Fun K "_law_drawn_rows" "_law_drawn_rows" sDrawn f fd) (B : Blt mg) : FnOk P w K mg base CX0 1 f fd ["_law_cells"] (spDrawn K) := by
  refine R.ok F scDrawn (fun vs H Q E h => ?_) (fun cdv A outer s H vs Q E hr h => ?_)
  · obtain ⟨_, _, rfl, _⟩ := h
    rfl
  · obtain ⟨p, cells, rfl, hp, hl, q⟩ := h
    have hu := hu_of hr
    refine ⟨_, (pss_cons (ps_set (i := 1) scDrawn.nd rfl (Or.inr rfl) (pe_dnewK)) <|
      pss_cons (ps_for PassesOwn.never rfl (pi_range1 rfl B.range (pa_call (pe_callB call_len_seq (by rfl) B.len (by rfl) (pa_nm (pv 0) pa_nil)) pa_nil)) (pg_name (i := 2) scDrawn.nd rfl (Or.inl rfl)) (pss_cons (ps_set (i := 3) scDrawn.nd rfl (Or.inl rfl) (pe_op op_add (pe_ix ix_list (pv 0) (pv 2) (fun _ _ => rfl)) (pe_op op_mul (pe_int) (pv 2)))) <|
        pss_cons (ps_set (i := 4) scDrawn.nd rfl (Or.inl rfl) (pe_int)) <|
        pss_cons (ps_set (i := 5) scDrawn.nd rfl (Or.inl rfl) (pe_lst (pa_nm (pv 2) (pa_bin (pe_op op_mul (pe_int) (pv 2)) (pa_bin (pe_op op_add (pv 4) (pv 2)) (pa_bin (pe_op op_mod (pe_op op_mul (pv 3) (pe_int)) (pe_int)) pa_nil)))))) <|
        pss_cons (ps_set (i := 6) scDrawn.nd rfl (Or.inl rfl) (pe_ix ix_list (pv 5) (pe_op op_mod (pe_op op_mod (pe_op op_mul (pv 3) (pe_int)) (pe_int)) (pe_int)) (fun _ _ => rfl))) <|
        pss_cons (ps_set (i := 7) scDrawn.nd rfl (Or.inl rfl) (pe_lst (pa_cst (pe_non) (pa_int (pa_int (pa_int (pa_nm (pv 4) (pa_bin (pe_op op_mod (pe_op op_mul (pv 3) (pe_int)) (pe_int)) pa_nil)))))))) <|
        pss_one (ps_dput hu (pv 1) (pv 6) (pe_ix ix_list (pv 7) (pe_op op_mod (pe_op op_mod (pe_op op_mul (pv 3) (pe_int)) (pe_int)) (pe_int)) (fun _ _ => rfl)) rfl))) <|
      pss_one (ps_ret (pe_comp csDrawn rfl rfl rfl (pi_list (pe_callB call_sortedI (by rfl) B.sorted (by rfl) (pa_call (pe_callTy (call_listD rfl) (by rfl) B.list (by rfl) (pa_nm (pv 1) pa_nil)) pa_nil))) (fun cl s₀ H₀ fp => pg_name (i := 0) csDrawn.nd rfl (Or.inl rfl) (Or.inr rfl)) (fun cl s₀ H₀ fp => pf_nil) (fun cl s₀ H₀ fp => pe_tup (pa_nm (pv 0) (pa_sub (pe_dget hu (pv 1) (pv 0) (fun _ _ => rfl)) pa_nil)))))), ?_⟩
    intro d hd
    refine ⟨_, rfl, p, _, rfl, .inl ((Same.upd hd).seq hp), (((cells.map V.int).length : Nat) : Int), rfl, by omega, by rw [List.length_map]; omega, ?_⟩
    refine for_range (fun i σ H' => ∃ (a2 a3 a4 a5 a6 a7 : Option V) (rows : List Row), σ = [some (.ref p), some (.ref d), a2, a3, a4, a5, a6, a7] ∧ Same H H' ∧ H' d = some (.dK (rowsD rows)) ∧ (rows.map (·.1)).Nodup ∧ (∀ r ∈ rows, TX.RowOk r) ∧ rows.length ≤ i)
      ⟨_, _, _, _, _, _, [], rfl, Same.upd hd, upd_same, .nil, fun r hr => (nomatch hr), Nat.le_refl _⟩ ?_ ?_
    · rintro i σ H2 hi ⟨a2, a3, a4, a5, a6, a7, rows, rfl, sm, hd2, nd, hok, hrl⟩
      have hi' : i < cells.length := by
        rw [List.length_map] at hi
        omega
      have hat : atI (cells.map V.int) (0 + (i : Int)) = some (V.int cells[i]) := by
        rw [Int.zero_add]
        exact atI_nat (by rw [List.getElem?_map]; simp [hi'])
      refine ⟨_, rfl, _, rfl, p, _, _, V.int cells[i], rfl, rfl, sm.seq hp, hat, _, rfl, _, _, rfl, rfl, .inl ⟨by decide, by decide⟩, _, _, rfl, rfl, ?_⟩
      refine ⟨_, rfl, _, rfl, _, _, rfl, rfl, .inl ⟨by decide, by decide⟩, _, rfl, _, rfl, _, _, rfl, rfl, _, rfl, _, _, rfl, rfl, .inr ⟨by decide, by decide⟩, _, _, rfl, rfl, Int.ofNat_lt.mpr (by decide), by show 4 ≤ sizeLine; decide, fun p4 hp4 => ?_⟩
      obtain ⟨n, hn, han⟩ := pick_mod (vs := [0 + (i : Int), 1000 * (0 + (i : Int)), 100000000000000000000 + (0 + (i : Int)), (cells[i] + 7 * (0 + (i : Int))) * 48271 % 1009]) (c := (cells[i] + 7 * (0 + (i : Int))) * 48271 % 1013) (m := 4) rfl (by decide)
      refine ⟨_, rfl, _, rfl, _, _, rfl, rfl, .inr ⟨by decide, by decide⟩, _, _, rfl, rfl, Int.ofNat_lt.mpr (by decide), _, _, rfl, rfl, Int.ofNat_lt.mpr (by decide), p4, _, _, V.int n, rfl, rfl, SqL.of upd_same, han, ?_⟩
      refine ⟨_, rfl, _, rfl, _, _, rfl, rfl, .inr ⟨by decide, by decide⟩, _, _, rfl, rfl, Int.ofNat_lt.mpr (by decide), by show 6 ≤ sizeLine; decide, fun p5 hp5 => ?_⟩
      obtain ⟨o, ho, hao⟩ := pickO (vs := [none, some 0, some 9, some 10, some 100000000000000000000, some ((cells[i] + 7 * (0 + (i : Int))) * 48271 % 1019)]) (c := (cells[i] + 7 * (0 + (i : Int))) * 48271 % 1021) (m := 6) rfl (by decide)
      have n4 : d ≠ p4 := ne_of_none hd2 hp4
      have hd4 : upd H2 p4 (.lst [.int (0 + (i : Int)), .int (1000 * (0 + (i : Int))), .int (100000000000000000000 + (0 + (i : Int))), .int ((cells[i] + 7 * (0 + (i : Int))) * 48271 % 1009)]) d = some (.dK (rowsD rows)) := by rw [upd_ne n4]; exact hd2
      have n5 : d ≠ p5 := ne_of_none hd4 hp5
      have hrow : TX.RowOk (n, o) := by
        have hm := Int.emod_nonneg ((cells[i] + 7 * (0 + (i : Int))) * 48271) (b := 1009) (by decide)
        have hm2 := Int.emod_lt_of_pos ((cells[i] + 7 * (0 + (i : Int))) * 48271) (b := 1009) (by decide)
        have hk := Int.emod_nonneg ((cells[i] + 7 * (0 + (i : Int))) * 48271) (b := 1019) (by decide)
        have hk2 := Int.emod_lt_of_pos ((cells[i] + 7 * (0 + (i : Int))) * 48271) (b := 1019) (by decide)
        generalize (cells[i] + 7 * (0 + (i : Int))) * 48271 % 1009 = u at *
        generalize (cells[i] + 7 * (0 + (i : Int))) * 48271 % 1019 = v at *
        simp only [List.mem_cons, List.not_mem_nil, or_false] at hn ho
        refine ⟨?_, ?_, fun k hk0 => ?_⟩
        · show 0 ≤ n
          omega
        · show n < 10 ^ 25
          omega
        · have hk1 : o = some k := hk0
          rcases ho with z | z | z | z | z | z <;> rw [z] at hk1 <;> first | (cases hk1; done) | (have := Option.some.inj hk1; omega)
      refine ⟨_, rfl, _, rfl, _, _, rfl, rfl, .inr ⟨by decide, by decide⟩, _, _, rfl, rfl, Int.ofNat_lt.mpr (by decide), _, _, rfl, rfl, Int.ofNat_lt.mpr (by decide), p5, _, _, optV o, rfl, rfl, SqL.of upd_same, hao, _, rfl, _, rfl, d, _, rfl, DPut.k (k := Sum.inl n) (kvs := rowsD rows) (by rw [upd_ne n5]; exact hd4) (by
        show (rowsD rows).length < _
        unfold rowsD
        rw [List.length_map]
        exact small_1000 (by omega)), ?_⟩
      rw [rowsD_put]
      exact ⟨_, _, _, _, _, _, putR rows n o, rfl, same_set ((sm.tr hp4).tr hp5) hd, upd_same, putR_nodup n o nd, putR_ok hok hrow, Nat.le_trans (putR_len rows n o) (by omega)⟩
    · rintro σ H2 ⟨a2, a3, a4, a5, a6, a7, rows, rfl, sm, hd2, nd, hok, hrl⟩
      rw [List.length_map] at hrl
      refine ⟨_, rfl, d, rowsD rows, rfl, .inl hd2, fun l1 hl1 => ?_⟩
      rw [rowsD_keys]
      refine ⟨l1, rows.map (·.1), rfl, SqL.of upd_same, by rw [List.length_map]; omega, fun l2 ns hl2 hpm hsr => ?_⟩
      refine ⟨l2, rfl, ⟨_, SqL.of upd_same⟩, fun z hz => ?_⟩
      have s3 : Same H (upd (upd H2 l1 (.lst ((rows.map (·.1)).map V.int))) l2 (.lst (ns.map V.int))) := (sm.tr hl1).tr hl2
      have hzH : H z = none := s3.free hz
      have hd3 : upd (upd H2 l1 (.lst ((rows.map (·.1)).map V.int))) l2 (.lst (ns.map V.int)) d = some (.dK (rowsD rows)) := Same.upd hl2 _ _ (Same.upd hl1 _ _ hd2)
      have nlz : l2 ≠ z := ne_of_none upd_same hz
      have hnl : ns.length = rows.length := by rw [hpm.length_eq, List.length_map]
      refine comp_list (xs := ns.map V.int) (fun i σ H' => ∃ v bs, σ = [v, some (.ref d)] ∧ Same H H' ∧ H' l2 = some (.lst (ns.map V.int)) ∧ H' d = some (.dK (rowsD rows)) ∧ H' z = some (.lst (bs.map V.ref)) ∧ Rows H' bs ((ns.take i).map fun n => (n, oldK rows n)))
        ⟨none, [], rfl, s3.tr hz, by rw [upd_ne nlz, upd_same], Same.upd hz _ _ hd3, upd_same, .nil⟩ (fun i σ H' _ ⟨_, _, _, _, h, _⟩ => SqL.of h) ?_ ?_
      · rintro i x σ H4 hi ⟨v, bs, rfl, sm4, hl4, hd4, hz4, rs4⟩
        obtain ⟨n, hn, hin, hil, rfl⟩ := int_at hi
        have hnk : n ∈ rows.map (·.1) := hpm.mem_iff.mp hin
        have hg : DGet H4 d (.int n) (some (optV (oldK rows n))) := by
          have := DGet.k (k := Sum.inl n) hd4
          rw [(rowsD_val hnk).1] at this
          exact this
        refine ⟨_, rfl, _, rfl, _, rfl, d, _, rfl, hg, by show 2 ≤ sizeLine; decide, fun t ht => ?_⟩
        have n1 : z ≠ t := ne_of_none hz4 ht
        have n2 : l2 ≠ t := ne_of_none hl4 ht
        have n3 : d ≠ t := ne_of_none hd4 ht
        have n5 : d ≠ z := fun e => by rw [← e, hd4] at hz4; cases hz4
        refine ⟨bs.map V.ref, by rw [upd_ne n1]; exact hz4, ?_, _, bs ++ [t], rfl, same_set (sm4.tr ht) hzH, ?_, ?_, ?_, ?_⟩
        · have e := rs4.length
          rw [List.length_map, List.length_take] at e
          rw [List.length_map, e]
          exact small_1000 (by omega)
        · rw [upd_ne nlz, upd_ne n2]
          exact hl4
        · rw [upd_ne n5, upd_ne n3]
          exact hd4
        · rw [upd_same, List.map_append]
          rfl
        · rw [take_snoc hn, List.map_append]
          refine ((rs4.same (Same.upd ht)).upd fun xs e => by rw [upd_ne n1, hz4] at e; cases e).snoc ?_
          rw [upd_ne n1.symm, upd_same]
      · rintro σ H4 ⟨v, bs, rfl, sm4, hl4, hd4, hz4, rs4⟩
        rw [List.length_map, List.take_length] at rs4
        have ndn : ns.Nodup := hpm.nodup_iff.mpr nd
        have hk : (ns.map fun n => ((n, oldK rows n) : Row)).map (·.1) = ns := by
          rw [List.map_map]
          exact List.map_id ns
        refine q H4 z bs _ sm4 hzH hz4 rs4 ⟨fun r hr => ?_, by rw [hk]; exact lt_of_le hsr ndn, by rw [List.length_map]; omega⟩
        obtain ⟨n, hn, rfl⟩ := List.mem_map.mp hr
        exact hok _ (rowsD_val (hpm.mem_iff.mp hn)).2
end
end RK

set_option autoImplicit false
set_option maxRecDepth 100000
set_option linter.all false
set_option Elab.async false
set_option maxHeartbeats 8000000
namespace RK
open PySem
open L2 hiding pv pe_bltn pe_int pe_bl pe_non pe_str pe_lst pe_tup pe_op pe_ix pe_callB pe_callTy pe_call pe_cmpR pe_and pe_or pe_one pe_not pe_slice pe_dget pe_dnewK pe_bm pt_cmp pt_cmpR pt_not pt_val pw_or pw_or1 pw_and pw_and1 pa_nil pa_cons pa_int pa_nm pa_bin pa_sub pa_call pss_cons pss_one pss_nil ps_set ps_if ps_for ps_ret ps_expr ps_dput pg_name pg_tup pgs_nil pgs_cons pi_list pi_range1 po_none po_some pc_isN pe_comp ps_setC pf_nil pc_notN pe_un pi_range2 ps_raise ph_nil ph_cons ps_tryX pj_nil pj_str pj_int pj_repr pe_join pi_str pe_glob ph_consAs PJ PH PE PT PW PA PS PSs PC PG PGs PI PO PF
open R hiding ok
section
variable {P : Program} {w : World} {K : PySem.W.Frag} {mg : Str → Option Value} {base : Heap} {f : Addr} {fd : FuncData}
theorem passN {X : Cx} : Passes (CX1 P w K) X E0 := fun _ _ _ _ _ _ _ h => by
  obtain ⟨_, _, _, _, _, _, _, hE⟩ := h
  exact hE.elim
theorem cut_take (L : List V) {k : Nat} (h : k ≤ L.length) : cutV L none (some (k : Int)) = L.take k := by
  unfold cutV
  rw [HT.sIx_none, HT.sIx_nat, List.drop_zero, Nat.sub_zero, Nat.min_eq_left h]
theorem cut_drop (L : List V) {k : Nat} (h : k ≤ L.length) : cutV L (some (k : Int)) none = L.drop k := by
  unfold cutV
  rw [HT.sIx_none, HT.sIx_nat, Nat.min_eq_left h, List.take_of_length_le (by rw [List.length_drop]; exact Nat.le_refl _)]
theorem Sm_ok {x : Str} (h : TX.Sm x) : PyData.strOk x = true := by
  unfold PyData.strOk
  rw [Array.all_eq_true']
  intro c hc
  have := h.asc c (by simpa using hc)
  exact decide_eq_true (by omega)
theorem strs_lay : ∀ {xs : List Str}, (∀ x ∈ xs, TX.Sm x) → PyData.canLayAll0 (xs.map PyData.str) = true
  | [], _ => by simp [PyData.canLayAll0]
  | x :: xs, h => by
    rw [List.map_cons]
    unfold PyData.canLayAll0
    rw [strs_lay fun y hy => h y (List.mem_cons_of_mem _ hy), Bool.and_true]
    unfold PyData.canLay0
    exact Sm_ok (h x List.mem_cons_self)
theorem strs_dats {H : Hp} : ∀ xs : List Str, Dats K H (xs.map V.str) (xs.map PyData.str)
  | [] => .nil
  | x :: xs => .cons (.str x) (strs_dats xs)
theorem strs_depth : ∀ xs : List Str, PyData.depthAll (xs.map PyData.str) ≤ 1
  | [] => by simp [PyData.depthAll]
  | x :: xs => by
    have := strs_depth xs
    rw [List.map_cons]
    simp only [PyData.depthAll, PyData.depth]
    omega
theorem scLaw : FnScope ["_law_script", "_law_rows", "_law_names", "_law_lines", "_law_name", "_law_keeper", "_law_line", "_law_found", "_law_k", "_law_back", "_law_large", "_law_bad", "_law_text", "_law_turned"] ["_law_script"] (defScope sLaw) := ⟨rfl, rfl, rfl, by decide +kernel, rfl, by decide +kernel, by decide +kernel⟩
theorem csNames : CScope (defScope sLaw) ["_law_script", "_law_rows", "_law_names", "_law_lines", "_law_name", "_law_keeper", "_law_line", "_law_found", "_law_k", "_law_back", "_law_large", "_law_bad", "_law_text", "_law_turned"] ["_law_row"] [none] (compScope (retE sLaw 1)) :=
  ⟨rfl, by decide +kernel, by decide +kernel, rfl, by decide +kernel, by decide +kernel, fun j i hj h => by
    match j, hj, h with
    | 0, _, h => cases h⟩
theorem ok_law {C fr : Addr} {dfr : FuncData} (F : Fun K "law" "law" sLaw f fd) (B : Blt mg) (Ar : Fn K mg "read" ["lines"] sRead fr dfr) (Gr : FnOk P w K mg base (CX1 P w K) 4 fr dfr ["lines"] (spRead K C))
    (hd : Has P w K mg base "_law_drawn_rows" ["_law_cells"] sDrawn 1 (spDrawn K)) (hs : Has P w K mg base "shown" ["rows"] sShown 2 (spShown K)) (hz : Has P w K mg base "_law_are_rows" ["_law_found", "_law_names"] sAreRows 2 (spAreRows K)) (hf : Has P w K mg base "_law_refused" ["_law_lines"] sRefused 5 (spRefused K)) (hu : Has P w K mg base "_law_under_base" ["_law_lines"] sUnder 5 (spRefused K)) :
    FnOk P w K mg base CX0 6 f fd ["_law_script"] (spLaw K) := by
  obtain ⟨fd, dfd, Ad, Gd⟩ := hd
  obtain ⟨fs, dfs, As, Gs⟩ := hs
  obtain ⟨fz, dfz, Az, Gz⟩ := hz
  obtain ⟨ff, dff, Af, Gf⟩ := hf
  obtain ⟨fu, dfu, Au, Gu⟩ := hu
  refine R.ok F scLaw (fun vs H Q E h => ?_) (fun cdv A outer s H vs Q E hr h => ?_)
  · obtain ⟨_, _, rfl, _⟩ := h
    rfl
  · obtain ⟨a, ns, rfl, hq, hlen, q⟩ := h
    have hr1 := hr.mono (show 1 ≤ 5 by decide)
    have hr2 := hr.mono (show 2 ≤ 5 by decide)
    have hr4 := hr.mono (show 4 ≤ 5 by decide)
    have hu := hu_of hr
    have hu60 := Nat.lt_of_le_of_lt (Nat.add_le_add_left (by decide : 60 ≤ 64) _) hr.units
    refine ⟨_, (pss_cons (ps_set (i := 1) scLaw.nd rfl (Or.inl rfl) (pe_call Gd hr1 (by rfl) Ad.mgf Ad.F.kp Ad.b .nil pass0 (pa_sub (pe_slice sl_list (pv 0) (po_some (pe_int)) (po_some (pe_int))) pa_nil))) <|
      pss_cons (ps_setC (i := 2) csNames rfl rfl rfl scLaw.nd rfl rfl (pi_list (pv 1)) (fun cl s₀ H₀ fp => pg_name (i := 0) csNames.nd rfl (Or.inl rfl) (Or.inr rfl)) (fun cl s₀ H₀ fp => pf_nil) (fun cl s₀ H₀ fp => pe_ix (r := rIxT K) ix_tup (pv 0) (pe_int) (fun _ _ => rfl)) (by rfl)) <|
      pss_any), ?_⟩
    refine ⟨_, rfl, 1, rfl, 150, rfl, a, _, rfl, hq, fun pc hpc => ?_⟩
    rw [cutV_ints]
    refine ⟨pc, _, rfl, SqL.of upd_same, Nat.le_trans (cutI_len _ _ _) hlen, fun H1 pr bs rows sm1 hprn hpr rs dr => ?_⟩
    have smA : Same H H1 := (Same.upd hpc).trans sm1
    refine ⟨_, rfl, pr, rfl, ⟨_, SqL.of hpr⟩, fun pn hpn => ?_⟩
    have nrn : pr ≠ pn := ne_of_none hpr hpn
    refine comp_list (xs := bs.map V.ref) (fun i σ H' => ∃ v, σ = [v] ∧ H' = upd H1 pn (.lst (((rows.map (·.1)).take i).map V.int))) ⟨none, rfl, rfl⟩ (fun i σ H' _ ⟨_, _, e⟩ => by rw [e]; exact SqL.of (by rw [upd_ne nrn]; exact hpr)) ?_ ?_
    · rintro i x σ H2 hi ⟨v, rfl, rfl⟩
      obtain ⟨b, hb, rfl⟩ := ref_at hi
      obtain ⟨r, hr0, hbt⟩ := rs.at hb
      have nb : b ≠ pn := ne_of_none hbt hpn
      have hbt' : (upd H1 pn (.lst (((rows.map (·.1)).take i).map V.int))) b = some (.tup [V.int r.1, optV r.2]) := by rw [upd_ne nb]; exact hbt
      have hn : (rows.map (·.1))[i]? = some r.1 := by rw [List.getElem?_map, hr0]; rfl
      refine ⟨_, rfl, b, _, 0, V.int r.1, rfl, rfl, SqT.of hbt', rfl, _, upd_same, ?_, _, rfl, ?_⟩
      · rw [List.length_map, List.length_take, List.length_map]
        have := dr.len
        exact small_1000 (by omega)
      · rw [upd_upd, take_snoc hn, List.map_append]
        rfl
    rintro σ H2 ⟨v, rfl, rfl⟩
    have e1 : (bs.map V.ref).length = (rows.map (·.1)).length := by rw [List.length_map, List.length_map, rs.length]
    rw [e1, List.take_length]
    have sm2 : Same H1 (upd H1 pn (.lst ((rows.map (·.1)).map V.int))) := Same.upd hpn
    have hpn2 : upd H1 pn (.lst ((rows.map (·.1)).map V.int)) pn = some (.lst ((rows.map (·.1)).map V.int)) := upd_same
    have hpr2 := sm2 _ _ hpr
    have rs2 := rs.same sm2
    generalize upd H1 pn (.lst ((rows.map (·.1)).map V.int)) = H2 at *
    -- lines
    refine ⟨_, (pss_cons (ps_set (i := 3) scLaw.nd rfl (Or.inl rfl) (pe_lst pa_nil)) <|
      pss_cons (ps_for PassesOwn.never rfl (pi_list (pv 1)) (pg_tup rfl (pgs_cons (pg_name (i := 4) scLaw.nd rfl (Or.inl rfl)) (pgs_cons (pg_name (i := 5) scLaw.nd rfl (Or.inl rfl)) pgs_nil))) (pss_cons (ps_set (i := 6) scLaw.nd rfl (Or.inl rfl) (pe_op op_add_str (pe_callTy call_str_int (by rfl) B.str (by rfl) (pa_nm (pv 4) pa_nil)) (pe_str))) <|
        pss_cons (ps_if (pt_cmp (pc_notN (pv 5))) (pss_one (ps_set (i := 6) scLaw.nd rfl (Or.inl rfl) (pe_op op_add_str (pe_op op_add_str (pe_callTy call_str_int (by rfl) B.str (by rfl) (pa_nm (pv 4) pa_nil)) (pe_str)) (pe_callTy call_str_int (by rfl) B.str (by rfl) (pa_nm (pv 5) pa_nil))))) pss_nil) <|
        pss_one (ps_expr (pe_bm PySem.F.plainAttrs_list PySem.F.slot_list_append PySem.F.type_list_append mt_append (pv 3) (pa_nm (pv 6) pa_nil))))) <|
      pss_any), ?_⟩
    refine ⟨by show 0 ≤ sizeLine; decide, fun pl hpl => ?_⟩
    have npl : pr ≠ pl := ne_of_none hpr2 hpl
    have nnl : pn ≠ pl := ne_of_none hpn2 hpl
    refine ⟨_, rfl, pr, rfl, ⟨_, SqL.of (by rw [upd_ne npl]; exact hpr2)⟩, ?_⟩
    refine for_list (xs := bs.map V.ref) (fun i σ H' => ∃ a4 a5 a6, σ = [some (.ref a), some (.ref pr), some (.ref pn), some (.ref pl), a4, a5, a6, none, none, none, none, none, none, none] ∧ H' = upd H2 pl (.lst (((rows.map TX.line).take i).map V.str))) ⟨_, _, _, rfl, rfl⟩ (fun i σ H' _ ⟨_, _, _, _, e⟩ => by rw [e]; exact SqL.of (by rw [upd_ne npl]; exact hpr2)) ?_ ?_
    · rintro i x σ H3 hi ⟨a4, a5, a6, rfl, rfl⟩
      obtain ⟨b, hb, rfl⟩ := ref_at hi
      obtain ⟨r, hr0, hbt⟩ := rs2.at hb
      have nb : b ≠ pl := ne_of_none hbt hpl
      have hbt' : (upd H2 pl (.lst (((rows.map TX.line).take i).map V.str))) b = some (.tup [V.int r.1, optV r.2]) := by rw [upd_ne nb]; exact hbt
      have hrm : r ∈ rows := List.mem_of_getElem? hr0
      have hok := dr.ok r hrm
      have hln : (rows.map TX.line)[i]? = some (TX.line r) := by rw [List.getElem?_map, hr0]; rfl
      have l1 := TX.num_len hok.n0 hok.n1
      have g1 := TX.num_log hok.n0 hok.n1
      have e8 : (Str.ofString " nowhere").length = 8 := by decide +kernel
      have e4 : (Str.ofString " at ").length = 4 := by decide +kernel
      have hil : i < rows.length := (List.getElem?_eq_some_iff.mp hr0).1
      have hdl := dr.len
      have hz : (((rows.map TX.line).take i).map V.str).length < sizeLine := by
        rw [List.length_map, List.length_take, List.length_map]
        exact small_1000 (by omega)
      refine ⟨b, _, rfl, SqT.of hbt', rfl, _, _, rfl, _, _, rfl, rfl, ?_⟩
      refine ⟨_, rfl, r.1, rfl, g1, _, _, rfl, rfl, small_z (show (TX.num r.1).length + (Str.ofString " nowhere").length ≤ 3000 by omega), ?_⟩
      obtain ⟨n, o⟩ := r
      cases o with
      | none =>
        refine ⟨_, rfl, _, rfl, iteF ?_⟩
        refine ⟨_, rfl, .inl ⟨rfl, _, SqL.of upd_same⟩, _, rfl, pl, _, _, rfl, rfl, upd_same, hz, _, _, _, rfl, ?_⟩
        rw [upd_upd, take_snoc hln, List.map_append]
        rfl
      | some k =>
        obtain ⟨k0, k1⟩ := hok.k0 k rfl
        have l2 := TX.num_len k0 k1
        have g2 := TX.num_log k0 k1
        have l1' : (TX.num n).length ≤ 25 := l1
        refine ⟨_, rfl, _, rfl, iteT ?_⟩
        refine ⟨_, rfl, n, rfl, g1, _, _, rfl, rfl, small_z (show (TX.num n).length + (Str.ofString " at ").length ≤ 3000 by omega), _, rfl, k, rfl, g2, _, _, rfl, rfl, small_z (show (TX.num n ++ Str.ofString " at ").length + (TX.num k).length ≤ 3000 by rw [TX.len_app]; omega), ?_⟩
        refine ⟨_, rfl, .inl ⟨rfl, _, SqL.of upd_same⟩, _, rfl, pl, _, _, rfl, rfl, upd_same, hz, _, _, _, rfl, ?_⟩
        rw [upd_upd, take_snoc hln, List.map_append]
        rfl
    rintro σ H3 ⟨a4, a5, a6, rfl, rfl⟩
    have e2 : (bs.map V.ref).length = (rows.map TX.line).length := by rw [List.length_map, List.length_map, rs.length]
    rw [e2, List.take_length]
    have sm3 : Same H2 (upd H2 pl (.lst ((rows.map TX.line).map V.str))) := Same.upd hpl
    have hpl3 : upd H2 pl (.lst ((rows.map TX.line).map V.str)) pl = some (.lst ((rows.map TX.line).map V.str)) := upd_same
    have hpr3 := sm3 _ _ hpr2
    have hpn3 := sm3 _ _ hpn2
    have rs3 := rs2.same sm3
    generalize upd H2 pl (.lst ((rows.map TX.line).map V.str)) = H3 at *
    have hlen2 : (rows.map TX.line).length ≤ 63 := by rw [List.length_map]; exact dr.len
    have hsm : ∀ x ∈ rows.map TX.line, TX.Sm x := fun x hx => by
      obtain ⟨r, hr, rfl⟩ := List.mem_map.mp hx
      exact TX.line_sm (dr.ok r hr)
    -- found
    refine ⟨_, (pss_cons (ps_set (i := 7) scLaw.nd rfl (Or.inl rfl) (pe_call Gs hr2 (by rfl) As.mgf As.F.kp As.b .nil pass0 (pa_call (pe_callTy call_list_of (by rfl) B.list (by rfl) (pa_nm (pv 1) pa_nil)) pa_nil))) <|
      pss_cons (ps_if ((pw_or (pt_not (pt_val (pe_callB call_isinst (by rfl) B.isinstance (by rfl) (pa_nm (pv 7) (pa_nm (pe_bltn (v := .ty "list") (by rfl) B.list (by rfl) rfl) pa_nil))))) (pw_or1 (pt_cmpR op_ne (pe_callB call_len_seq (by rfl) B.len (by rfl) (pa_nm (pv 7) pa_nil)) (pe_callB call_len_seq (by rfl) B.len (by rfl) (pa_nm (pv 3) pa_nil)) (nomark _)))).pt) pss_never pss_nil) <|
      pss_cons (ps_for PassesOwn.never rfl (pi_range1 rfl B.range (pa_call (pe_callB call_len_seq (by rfl) B.len (by rfl) (pa_nm (pv 3) pa_nil)) pa_nil)) (pg_name (i := 8) scLaw.nd rfl (Or.inl rfl)) (pss_one (ps_if ((pw_or (pt_not (pt_val (pe_callB call_isinst (by rfl) B.isinstance (by rfl) (pa_sub (pe_ix ix_list (pv 7) (pv 8) (fun _ _ => rfl)) (pa_nm (pe_bltn (v := .ty "str") (by rfl) B.str (by rfl) rfl) pa_nil))))) (pw_or1 (pt_cmpR op_ne (pe_ix ix_list (pv 7) (pv 8) (fun _ _ => rfl)) (pe_ix ix_list (pv 3) (pv 8) (fun _ _ => rfl)) (nomark _)))).pt) pss_never pss_nil))) <|
      pss_any), ?_⟩
    refine ⟨_, rfl, pr, _, rfl, .inl (SqL.of hpr3), fun lf hlf => ?_⟩
    refine ⟨lf, bs, rows, rfl, SqL.of upd_same, rs3.fresh hlf, dr.ok, by have := dr.len; omega, fun H4 pf sm4 hpfn hpf => ?_⟩
    have sm34 : Same H3 H4 := (Same.upd hlf).trans sm4
    have hpl4 := sm34 _ _ hpl3
    have hpr4 := sm34 _ _ hpr3
    have hpn4 := sm34 _ _ hpn3
    have rs4 := rs3.same sm34
    refine ⟨_, rfl, _, _, _, _, rfl, .lst hpf, kit_eq _ _, _, rfl, iteF ?_⟩
    refine ⟨_, rfl, pf, _, rfl, .inl (SqL.of hpf), _, rfl, pl, _, rfl, .inl (SqL.of hpl4), rfl, _, rfl, iteNS rfl ?_⟩
    refine ⟨_, rfl, pl, _, rfl, .inl (SqL.of hpl4), ((((rows.map TX.line).map V.str).length : Nat) : Int), rfl, by omega, by rw [List.length_map]; omega, ?_⟩
    refine for_range (fun i σ H' => ∃ a8, σ = [some (.ref a), some (.ref pr), some (.ref pn), some (.ref pl), a4, a5, a6, some (.ref pf), a8, none, none, none, none, none] ∧ H' = H4) ⟨_, rfl, rfl⟩ ?_ ?_
    · rintro i σ H5 hi ⟨a8, rfl, rfl⟩
      have hi' : i < (rows.map TX.line).length := by
        rw [List.length_map] at hi
        omega
      have hat : atI ((rows.map TX.line).map V.str) (0 + (i : Int)) = some (V.str (rows.map TX.line)[i]) := by
        rw [Int.zero_add]
        exact atI_nat (by rw [List.getElem?_map, List.getElem?_eq_getElem hi']; rfl)
      refine ⟨_, rfl, _, rfl, pf, _, _, V.str (rows.map TX.line)[i], rfl, rfl, SqL.of hpf, hat, _, _, _, _, rfl, .str _, kit_eq _ _, _, rfl, iteF ?_⟩
      exact ⟨_, rfl, _, rfl, pf, _, _, V.str (rows.map TX.line)[i], rfl, rfl, SqL.of hpf, hat, _, rfl, _, rfl, pl, _, _, V.str (rows.map TX.line)[i], rfl, rfl, SqL.of hpl4, hat, rfl, _, rfl, iteNS rfl ⟨_, rfl, rfl⟩⟩
    rintro σ H5 ⟨a8, rfl, rfl⟩
    have hnd : (rows.map (·.1)).Nodup := dr.srt.imp fun h => by omega
    have hread : TX.readFrom none (rows.map TX.line) = some rows := TX.read_lines rows none dr.ok dr.srt (fun _ e => by cases e)
    -- back
    refine ⟨_, (pss_cons (ps_set (i := 9) scLaw.nd rfl (Or.inl rfl) (pe_call Gr hr4 (by rfl) Ar.mgf Ar.F.kp Ar.b .nil passN (pa_call (pe_callTy call_list_of (by rfl) B.list (by rfl) (pa_nm (pv 3) pa_nil)) pa_nil))) <|
      pss_cons (ps_if ((pw_or (pt_not (pt_val (pe_call Gz hr2 (by rfl) Az.mgf Az.F.kp Az.b .nil pass0 (pa_nm (pv 9) (pa_nm (pv 2) pa_nil))))) (pw_or1 (pt_cmpR (op_neD hu60) (pv 9) (pv 1) (nomark _)))).pt) pss_never pss_nil) <|
      pss_any), ?_⟩
    refine ⟨_, rfl, pl, _, rfl, .inl (SqL.of hpl4), fun lb hlb => ?_⟩
    refine ⟨lb, rows.map TX.line, rfl, SqL.of upd_same, hsm, by omega, fun rows' e H6 pb bs6 sm6 hpbn hpb rs6 => ?_, fun e => by rw [hread] at e; cases e⟩
    rw [hread] at e
    cases e
    have smB := (Same.upd (o := .lst ((rows.map TX.line).map V.str)) hlb).trans sm6
    have hpl6 := smB _ _ hpl4
    have hpr6 := smB _ _ hpr4
    have hpn6 := smB _ _ hpn4
    have rsr6 := rs4.same smB
    have hfun := rows_fun hnd
    refine ⟨_, rfl, _, rfl, pb, pn, bs6, rows.map (·.1), rows.map (·.1), oldK rows, rfl, hpb, by rw [← hfun]; exact rs6, SqL.of hpn6, .refl _, dr.srt.imp (fun h => by omega), by rw [List.length_map]; exact dr.len, fun H7 sm7 => ⟨_, rfl, iteF ?_⟩⟩
    refine ⟨_, rfl, _, rfl, ne_same (d := .list (rows.map rowP)) (n := 4) (.lst (SqL.of (sm7 _ _ hpb)) (rs6.same sm7).dats) (.lst (SqL.of (sm7 _ _ hpr6)) (rsr6.same sm7).dats) (nice_list rowP_nice _) (by decide) ⟨_, rfl, iteF ?_⟩⟩
    have hpl7 := sm7 _ _ hpl6
    -- large
    refine ⟨_, (pss_cons (ps_set (i := 10) scLaw.nd rfl (Or.inl rfl) (pe_op op_mul_9 (pe_str) (pe_int))) <|
      pss_cons (ps_set (i := 11) scLaw.nd rfl (Or.inl rfl) (pe_lst (pa_cst (pe_str) (pa_cst (pe_str) (pa_cst (pe_str) (pa_cst (pe_str) (pa_cst (pe_str) (pa_cst (pe_str) (pa_cst (pe_str) (pa_cst (pe_str) (pa_cst (pe_str) pa_nil))))))))))) <|
      pss_cons (ps_set (i := 11) scLaw.nd rfl (Or.inl rfl) (pe_op op_cat (pv 11) (pe_lst (pa_cst (pe_str) (pa_cst (pe_str) (pa_cst (pe_str) (pa_cst (pe_str) (pa_cst (pe_str) pa_nil)))))))) <|
      pss_any), ?_⟩
    refine ⟨rfl, rfl, ?_⟩
    have e9 : manyOf "9" 30 = TX.nines := by decide +kernel
    rw [e9]
    refine ⟨by show 9 ≤ sizeLine; decide, fun b1 hb1 => ?_⟩
    have hpl8 := Same.upd (o := .lst [.str "", .str " at", .str " at 1 2", .str " at  1", .str "  at 1", .str " At 1", .str " at 01", .str " at -1", .str " at +1"]) hb1 _ _ hpl7
    refine ⟨_, rfl, by show 5 ≤ sizeLine; decide, fun b2 hb2 => ?_⟩
    have hpl9 := Same.upd (o := .lst [.str " at x", .str " nowhere ", .str " Nowhere", .str " at nowhere", .str " 1 at"]) hb2 _ _ hpl8
    refine ⟨b1, b2, _, _, rfl, rfl, Same.upd hb2 _ _ upd_same, upd_same, by show 14 ≤ sizeLine; decide, fun b3 hb3 => ?_⟩
    have hplA := Same.upd (o := .lst (TX.badT.map V.str)) hb3 _ _ hpl9
    have hb3A : upd _ b3 (.lst (TX.badT.map V.str)) b3 = some (.lst (TX.badT.map V.str)) := upd_same (H := upd (upd H7 b1 (.lst [.str "", .str " at", .str " at 1 2", .str " at  1", .str "  at 1", .str " At 1", .str " at 01", .str " at -1", .str " at +1"])) b2 (.lst [.str " at x", .str " nowhere ", .str " Nowhere", .str " at nowhere", .str " 1 at"]))
    -- bad
    refine ⟨_, (pss_cons (ps_for PassesOwn.never rfl (pi_list (pv 11)) (pg_name (i := 12) scLaw.nd rfl (Or.inl rfl)) (pss_cons (ps_if (pt_not (pt_val (pe_call Gf hr (by rfl) Af.mgf Af.F.kp Af.b .nil pass0 (pa_bin (pe_op op_cat (pv 3) (pe_lst (pa_bin (pe_op op_add_str (pv 10) (pv 12)) pa_nil))) pa_nil)))) pss_never pss_nil) <|
        pss_one (ps_if (pt_not (pt_val (pe_call Gu hr (by rfl) Au.mgf Au.F.kp Au.b .nil pass0 (pa_bin (pe_op op_cat (pv 3) (pe_lst (pa_bin (pe_op op_add_str (pv 10) (pv 12)) (pa_bin (pe_op op_add_str (pv 10) (pe_str)) pa_nil)))) pa_nil)))) pss_never pss_nil))) <|
      pss_any), ?_⟩
    refine ⟨_, rfl, b3, rfl, ⟨_, SqL.of hb3A⟩, ?_⟩
    refine for_list (xs := TX.badT.map V.str) (fun i σ H' => ∃ a12, σ = [some (.ref a), some (.ref pr), some (.ref pn), some (.ref pl), a4, a5, a6, some (.ref pf), a8, some (.ref pb), some (.str TX.nines), some (.ref b3), a12, none] ∧ H' pl = some (.lst ((rows.map TX.line).map V.str)) ∧ H' b3 = some (.lst (TX.badT.map V.str))) ⟨_, rfl, hplA, hb3A⟩ (fun i σ H' _ ⟨_, _, _, h⟩ => SqL.of h) ?_ ?_
    · rintro i v σ HA hi ⟨a12, rfl, h1, h2⟩
      obtain ⟨t, ht, rfl⟩ := str_at hi
      have htm : t ∈ TX.badT := List.mem_of_getElem? ht
      have hts := TX.smB_ok (TX.bad_sm t htm)
      have htl : TX.nines.length + t.length ≤ sizeLine := by rw [← TX.len_app]; have := hts.len; exact small_z (by omega)
      refine ⟨_, rfl, _, rfl, _, rfl, _, _, rfl, rfl, htl, by show 1 ≤ sizeLine; decide, fun q1 hq1 => ?_⟩
      have h1a := Same.upd (o := .lst [.str (TX.nines ++ t)]) hq1 _ _ h1
      have h2a := Same.upd (o := .lst [.str (TX.nines ++ t)]) hq1 _ _ h2
      refine ⟨pl, q1, _, _, rfl, rfl, h1a, upd_same, ?_, fun q2 hq2 => ?_⟩
      · rw [List.length_map]
        exact small_z (show _ + 1 ≤ 3000 by omega)
      have h1b := Same.upd (o := .lst ((rows.map TX.line).map V.str ++ [.str (TX.nines ++ t)])) hq2 _ _ h1a
      have h2b := Same.upd (o := .lst ((rows.map TX.line).map V.str ++ [.str (TX.nines ++ t)])) hq2 _ _ h2a
      refine ⟨q2, rows.map TX.line ++ [TX.nines ++ t], rfl, SqL.of (by rw [upd_same, List.map_append]; rfl), fun x hx => ?_, ?_, TX.read_bad (TX.bad_none t htm), fun HB smb => ⟨_, rfl, iteF ?_⟩⟩
      · rcases List.mem_append.mp hx with hx | hx
        · exact hsm x hx
        · rw [List.mem_singleton.mp hx]
          exact hts
      · rw [List.length_append]
        show _ + 1 ≤ 100
        omega
      have h1c := smb _ _ h1b
      have h2c := smb _ _ h2b
      refine ⟨_, rfl, _, rfl, _, rfl, _, _, rfl, rfl, htl, _, rfl, _, _, rfl, rfl, by decide +kernel, by show 2 ≤ sizeLine; decide, fun q3 hq3 => ?_⟩
      have h1d := Same.upd (o := .lst [.str (TX.nines ++ t), .str (TX.nines ++ Str.ofString "9 at 1")]) hq3 _ _ h1c
      have h2d := Same.upd (o := .lst [.str (TX.nines ++ t), .str (TX.nines ++ Str.ofString "9 at 1")]) hq3 _ _ h2c
      refine ⟨pl, q3, _, _, rfl, rfl, h1d, upd_same, ?_, fun q4 hq4 => ?_⟩
      · rw [List.length_map]
        exact small_z (show _ + 2 ≤ 3000 by omega)
      have h1e := Same.upd (o := .lst ((rows.map TX.line).map V.str ++ [.str (TX.nines ++ t), .str (TX.nines ++ Str.ofString "9 at 1")])) hq4 _ _ h1d
      have h2e := Same.upd (o := .lst ((rows.map TX.line).map V.str ++ [.str (TX.nines ++ t), .str (TX.nines ++ Str.ofString "9 at 1")])) hq4 _ _ h2d
      refine ⟨q4, rows.map TX.line ++ [TX.nines ++ t, TX.nines ++ Str.ofString "9 at 1"], rfl, SqL.of (by rw [upd_same, List.map_append]; rfl), fun x hx => ?_, ?_, TX.read_bad (TX.bad_none t htm), fun HC smc => ⟨_, rfl, iteF ⟨_, rfl, smc _ _ h1e, smc _ _ h2e⟩⟩⟩
      · rcases List.mem_append.mp hx with hx | hx
        · exact hsm x hx
        · rcases List.mem_cons.mp hx with rfl | hx
          · exact hts
          · rw [List.mem_singleton.mp hx]
            exact TX.smB_ok TX.more_sm
      · rw [List.length_append]
        show _ + 2 ≤ 100
        omega
    rintro σ HA ⟨a12, rfl, h1, _⟩
    -- first
    refine ⟨_, (pss_cons (ps_for PassesOwn.never rfl (pi_list (pe_lst (pa_cst (pe_str) (pa_cst (pe_str) (pa_cst (pe_str) (pa_cst (pe_str) (pa_cst (pe_str) (pa_cst (pe_str) (pa_cst (pe_str) pa_nil))))))))) (pg_name (i := 12) scLaw.nd rfl (Or.inl rfl)) (pss_one (ps_if (pt_not (pt_val (pe_call Gf hr (by rfl) Af.mgf Af.F.kp Af.b .nil pass0 (pa_bin (pe_op op_cat (pe_lst (pa_nm (pv 12) pa_nil)) (pv 3)) pa_nil)))) pss_never pss_nil))) <|
      pss_any), ?_⟩
    refine ⟨by show 7 ≤ sizeLine; decide, fun c1 hc1 => ?_⟩
    have hc1A : upd HA c1 (.lst (TX.firstT.map V.str)) c1 = some (.lst (TX.firstT.map V.str)) := upd_same
    have h1a := Same.upd (o := .lst (TX.firstT.map V.str)) hc1 _ _ h1
    refine ⟨c1, rfl, ⟨_, SqL.of hc1A⟩, ?_⟩
    refine for_list (xs := TX.firstT.map V.str) (fun i σ H' => ∃ a12, σ = [some (.ref a), some (.ref pr), some (.ref pn), some (.ref pl), a4, a5, a6, some (.ref pf), a8, some (.ref pb), some (.str TX.nines), some (.ref b3), a12, none] ∧ H' pl = some (.lst ((rows.map TX.line).map V.str)) ∧ H' c1 = some (.lst (TX.firstT.map V.str))) ⟨_, rfl, h1a, hc1A⟩ (fun i σ H' _ ⟨_, _, _, h⟩ => SqL.of h) ?_ ?_
    · rintro i v σ HA hi ⟨a12, rfl, h1, h2⟩
      obtain ⟨t, ht, rfl⟩ := str_at hi
      have htm : t ∈ TX.firstT := List.mem_of_getElem? ht
      have hts := TX.smB_ok (TX.first_sm t htm)
      refine ⟨_, rfl, by show 1 ≤ sizeLine; decide, fun q1 hq1 => ⟨_, rfl, ?_⟩⟩
      have h1a := Same.upd (o := .lst [.str t]) hq1 _ _ h1
      have h2a := Same.upd (o := .lst [.str t]) hq1 _ _ h2
      refine ⟨q1, pl, _, _, rfl, rfl, upd_same, h1a, ?_, fun q2 hq2 => ?_⟩
      · rw [List.length_map]
        exact small_z (show 1 + _ ≤ 3000 by omega)
      have h1b := Same.upd (o := .lst ([.str t] ++ (rows.map TX.line).map V.str)) hq2 _ _ h1a
      have h2b := Same.upd (o := .lst ([.str t] ++ (rows.map TX.line).map V.str)) hq2 _ _ h2a
      refine ⟨q2, t :: rows.map TX.line, rfl, SqL.of (by rw [upd_same]; rfl), fun x hx => ?_, ?_, TX.read_none (TX.first_none t htm), fun HB smb => ⟨_, rfl, iteF ⟨_, rfl, smb _ _ h1b, smb _ _ h2b⟩⟩⟩
      · rcases List.mem_cons.mp hx with rfl | hx
        · exact hts
        · exact hsm x hx
      · rw [List.length_cons]
        omega
    rintro σ HA ⟨a12, rfl, h1, _⟩
    -- turned
    refine ⟨_, (pss_cons (ps_for PassesOwn.never rfl (pi_range2 rfl B.range (pa_int (pa_call (pe_callB call_len_seq (by rfl) B.len (by rfl) (pa_nm (pv 3) pa_nil)) pa_nil))) (pg_name (i := 8) scLaw.nd rfl (Or.inl rfl)) (pss_cons (ps_set (i := 13) scLaw.nd rfl (Or.inl rfl) (pe_op op_cat (pe_op op_cat (pe_slice sl_list (pv 3) po_none (po_some (pe_op op_sub (pv 8) (pe_int)))) (pe_lst (pa_sub (pe_ix ix_list (pv 3) (pv 8) (fun _ _ => rfl)) (pa_sub (pe_ix ix_list (pv 3) (pe_op op_sub (pv 8) (pe_int)) (fun _ _ => rfl)) pa_nil)))) (pe_slice sl_list (pv 3) (po_some (pe_op op_add (pv 8) (pe_int))) po_none))) <|
        pss_one (ps_if (pt_not (pt_val (pe_call Gf hr (by rfl) Af.mgf Af.F.kp Af.b .nil pass0 (pa_nm (pv 13) pa_nil)))) pss_never pss_nil))) <|
      pss_any), ?_⟩
    refine ⟨_, rfl, pl, _, rfl, .inl (SqL.of h1), 1, _, rfl, ⟨by decide, by decide, by omega, by rw [List.length_map]; omega⟩, ?_⟩
    refine for_range (fun i σ H' => ∃ b8 b13, σ = [some (.ref a), some (.ref pr), some (.ref pn), some (.ref pl), a4, a5, a6, some (.ref pf), b8, some (.ref pb), some (.str TX.nines), some (.ref b3), a12, b13] ∧ H' pl = some (.lst ((rows.map TX.line).map V.str))) ⟨_, _, rfl, h1⟩ ?_ ?_
    · rintro i σ HA hi ⟨b8, b13, rfl, h1⟩
      have hll : ((rows.map TX.line).map V.str).length = rows.length := by rw [List.length_map, List.length_map]
      have hdl : rows.length ≤ 63 := dr.len
      have hi2 : i + 1 < rows.length := by
        rw [hll] at hi
        omega
      have hi1 : i < rows.length := by omega
      have g0 : (rows.map TX.line)[i]? = some (TX.line rows[i]) := by rw [List.getElem?_map, List.getElem?_eq_getElem hi1]; rfl
      have g1 : (rows.map TX.line)[i + 1]? = some (TX.line rows[i + 1]) := by rw [List.getElem?_map, List.getElem?_eq_getElem hi2]; rfl
      have k0 : (1 + (i : Int)) - 1 = ((i : Nat) : Int) := by omega
      have k1 : 1 + (i : Int) = (((i + 1 : Nat)) : Int) := by omega
      have k2 : 1 + (i : Int) + 1 = (((i + 2 : Nat)) : Int) := by omega
      have at1 : atI ((rows.map TX.line).map V.str) (1 + (i : Int)) = some (V.str (TX.line rows[i + 1])) := by
        rw [k1]
        exact atI_nat (by rw [List.getElem?_map, g1]; rfl)
      have at0 : atI ((rows.map TX.line).map V.str) ((1 + (i : Int)) - 1) = some (V.str (TX.line rows[i])) := by
        rw [k0]
        exact atI_nat (by rw [List.getElem?_map, g0]; rfl)
      refine ⟨_, rfl, _, rfl, _, _, rfl, rfl, _, rfl, pl, _, rfl, SqL.of h1, fun s1 hs1 => ?_⟩
      rw [k0, cut_take _ (by rw [hll]; omega)]
      have hA1 := Same.upd (o := .lst (((rows.map TX.line).map V.str).take i)) hs1 _ _ h1
      refine ⟨_, rfl, _, rfl, pl, _, _, V.str (TX.line rows[i + 1]), rfl, rfl, SqL.of hA1, at1, _, rfl, _, rfl, _, _, rfl, rfl, pl, _, _, V.str (TX.line rows[i]), rfl, rfl, SqL.of hA1, at0, by show 2 ≤ sizeLine; decide, fun s2 hs2 => ?_⟩
      have hA2 := Same.upd (o := .lst [V.str (TX.line rows[i + 1]), V.str (TX.line rows[i])]) hs2 _ _ hA1
      refine ⟨s1, s2, _, _, rfl, rfl, Same.upd hs2 _ _ upd_same, upd_same, ?_, fun s3 hs3 => ?_⟩
      · rw [List.length_take, hll]
        exact small_z (show _ + 2 ≤ 3000 by omega)
      have hA3 := Same.upd (o := .lst (((rows.map TX.line).map V.str).take i ++ [V.str (TX.line rows[i + 1]), V.str (TX.line rows[i])])) hs3 _ _ hA2
      refine ⟨_, rfl, _, rfl, _, _, rfl, rfl, _, rfl, pl, _, rfl, SqL.of hA3, fun s4 hs4 => ?_⟩
      rw [k2, cut_drop _ (by rw [hll]; omega)]
      have hA4 := Same.upd (o := .lst (((rows.map TX.line).map V.str).drop (i + 2))) hs4 _ _ hA3
      refine ⟨s3, s4, _, _, rfl, rfl, Same.upd hs4 _ _ upd_same, upd_same, ?_, fun s5 hs5 => ?_⟩
      · rw [List.length_append, List.length_take, List.length_drop, hll]
        exact small_z (show _ + 2 + _ ≤ 3000 by omega)
      have hA5 := Same.upd (o := .lst (((rows.map TX.line).map V.str).take i ++ [V.str (TX.line rows[i + 1]), V.str (TX.line rows[i])] ++ ((rows.map TX.line).map V.str).drop (i + 2))) hs5 _ _ hA4
      have hlt : rows[i].1 ≤ rows[i + 1].1 := by
        have := (List.pairwise_iff_getElem.mp dr.srt) i (i + 1) (by rw [List.length_map]; exact hi1) (by rw [List.length_map]; exact hi2) (by omega)
        rw [List.getElem_map, List.getElem_map] at this
        omega
      refine ⟨_, rfl, s5, (rows.map TX.line).take i ++ TX.line rows[i + 1] :: TX.line rows[i] :: (rows.map TX.line).drop (i + 2), rfl, SqL.of (by rw [upd_same, List.map_append, List.map_cons, List.map_cons, List.map_take, List.map_drop, List.append_assoc]; rfl), fun x hx => ?_, ?_,
        TX.read_turn (TX.row_line (dr.ok _ (List.getElem_mem hi2))) (TX.row_line (dr.ok _ (List.getElem_mem hi1))) hlt, fun HB smb => ⟨_, rfl, iteF ⟨_, _, rfl, smb _ _ hA5⟩⟩⟩
      · refine hsm x ?_
        rcases List.mem_append.mp hx with hx | hx
        · exact List.mem_of_mem_take hx
        · rcases List.mem_cons.mp hx with rfl | hx
          · exact List.mem_of_getElem? g1
          · rcases List.mem_cons.mp hx with rfl | hx
            · exact List.mem_of_getElem? g0
            · exact List.mem_of_mem_drop hx
      · rw [List.length_append, List.length_cons, List.length_cons, List.length_take, List.length_drop, List.length_map]
        omega
    rintro σ HA ⟨b8, b13, rfl, h1⟩
    -- twice
    refine ⟨_, (pss_one (ps_ret (pe_or (pe_cmpR (op_eqD hu60) (pv 3) (pe_lst pa_nil) (nomark _)) (pe_one (pe_call Gf hr (by rfl) Af.mgf Af.F.kp Af.b .nil pass0 (pa_bin (pe_op op_cat (pe_slice sl_list (pv 3) po_none (po_some (pe_int))) (pv 3)) pa_nil)))))), ?_⟩
    cases hL : rows.map TX.line with
    | nil =>
      rw [hL] at h1
      refine ⟨_, rfl, by show 0 ≤ sizeLine; decide, fun z hz => ⟨.list [], .list [], .lst (SqL.of (Same.upd hz _ _ h1)) .nil, .lst (SqL.of upd_same) .nil, rfl, rfl, by decide, _, rfl, iteT (q _)⟩⟩
    | cons y ys =>
      rw [hL] at h1 hsm hlen2
      have hy : TX.Sm y := hsm y List.mem_cons_self
      obtain ⟨r0, hr0, ey⟩ : ∃ r ∈ rows, TX.line r = y := List.mem_map.mp (by rw [hL]; exact List.mem_cons_self)
      have hrow : TX.rowOf y = some r0 := by rw [← ey]; exact TX.row_line (dr.ok r0 hr0)
      have hlay : (PyData.list ((y :: ys).map PyData.str)).canLay0 = true := by
        unfold PyData.canLay0
        exact strs_lay hsm
      have hdep : (PyData.list ((y :: ys).map PyData.str)).depth ≤ 60 := by
        have := strs_depth (y :: ys)
        unfold PyData.depth
        omega
      refine ⟨_, rfl, by show 0 ≤ sizeLine; decide, fun z hz => ⟨.list ((y :: ys).map PyData.str), .list [], .lst (SqL.of (Same.upd hz _ _ h1)) (strs_dats _), .lst (SqL.of upd_same) .nil, hlay, rfl, hdep, _, rfl, iteF ?_⟩⟩
      have h2 := Same.upd (o := .lst []) hz _ _ h1
      refine ⟨_, rfl, 1, rfl, pl, _, rfl, SqL.of h2, fun s1 hs1 => ?_⟩
      have ec : cutV ((y :: ys).map V.str) none (some 1) = [V.str y] := cut_take ((y :: ys).map V.str) (k := 1) (by rw [List.length_map]; exact Nat.succ_le_succ (Nat.zero_le _))
      rw [ec]
      have h3 := Same.upd (o := .lst [V.str y]) hs1 _ _ h2
      refine ⟨_, rfl, s1, pl, _, _, rfl, rfl, upd_same, h3, ?_, fun s2 hs2 => ?_⟩
      · rw [List.length_map]
        exact small_z (show 1 + _ ≤ 3000 by omega)
      refine ⟨s2, y :: y :: ys, rfl, SqL.of (by rw [upd_same]; rfl), fun x hx => ?_, ?_, TX.read_turn (xs := []) hrow hrow (Int.le_refl _), fun HB smb => q _⟩
      · rcases List.mem_cons.mp hx with rfl | hx
        · exact hy
        · exact hsm x hx
      · rw [List.length_cons]
        omega
end
end RK

set_option autoImplicit false
set_option maxRecDepth 100000
set_option linter.all false
set_option Elab.async false
set_option maxHeartbeats 8000000
namespace RK
open PySem L2 PyProof.Rows
theorem len1 {us : List Value} (h : us.length = 1) : ∃ a, us = [a] := by
  cases us with
  | nil => cases h
  | cons a r => cases r with
    | nil => exact ⟨a, rfl⟩
    | cons b r => cases h
theorem len2 {us : List Value} (h : us.length = 2) : ∃ a b, us = [a, b] := by
  cases us with
  | nil => cases h
  | cons a r => obtain ⟨b, rfl⟩ := len1 (Nat.succ.inj h); exact ⟨a, b, rfl⟩
theorem len3 {us : List Value} (h : us.length = 3) : ∃ a b c, us = [a, b, c] := by
  cases us with
  | nil => cases h
  | cons a r => obtain ⟨b, c, rfl⟩ := len2 (Nat.succ.inj h); exact ⟨a, b, c, rfl⟩
theorem len4 {us : List Value} (h : us.length = 4) : ∃ a b c d, us = [a, b, c, d] := by
  cases us with
  | nil => cases h
  | cons a r => obtain ⟨b, c, d, rfl⟩ := len3 (Nat.succ.inj h); exact ⟨a, b, c, d, rfl⟩
theorem fn_mk {K : PySem.W.Frag} {h : Heap} {mg : Str → Option Value} {x : Str} {ps : List Str} {st : Stmt} {f : Addr} {oc : Value} {od an : Option Addr} {osl : Array (Option Value)} {kV doc pm cdv ct : Value} (X : K.In h) (G : h.Ns mainGlobals mg)
    (a : PySem.W.nsIn K mainGlobals x = some (some (.ref f))) (l : K.lookup f = some ⟨oc, od, .func (PySem.W.fnOf x x (defArgs st) (defBody st) (defScope st) .none kV doc pm an cdv ct), osl⟩)
    (c : PySem.W.codeIn K cdv x = true) (k : PySem.W.keepIn K (.ref f) = true) (b : Binds K (PySem.W.fnOf x x (defArgs st) (defBody st) (defScope st) .none kV doc pm an cdv ct) ps []) :
    Fn K mg x ps st f (PySem.W.fnOf x x (defArgs st) (defBody st) (defScope st) .none kV doc pm an cdv ct) := ⟨fun_mk (st := st) l c k, PySem.W.mg_of X G a, b⟩
theorem all_mk {l : PySem.W.OpenLaw} {w : World} {K : PySem.W.Frag} {h : Heap} {mg : Str → Option Value} {fa f1 f2 f3 f4 f5 f6 f7 f8 f9 f10 f11 f12 e1 e2 e3 e4 e5 e6 e7 : Addr} {tF : Tok} (X : K.In h) (G : h.Ns mainGlobals mg) (hfa : mg "law" = some (.ref fa))
    {od1 an1 od2 an2 od3 an3 od4 an4 od5 an5 od6 an6 od7 an7 od8 an8 od9 an9 od10 an10 od11 an11 od12 an12 : Option Addr} {sl1 sl2 sl3 sl4 sl5 sl6 sl7 sl8 sl9 sl10 sl11 sl12 : Array (Option Value)} {oc1 kV1 dc1 pm1 cd1 ct1 oc2 kV2 dc2 pm2 cd2 ct2 oc3 kV3 dc3 pm3 cd3 ct3 oc4 kV4 dc4 pm4 cd4 ct4 oc5 kV5 dc5 pm5 cd5 ct5 oc6 kV6 dc6 pm6 cd6 ct6 oc7 kV7 dc7 pm7 cd7 ct7 oc8 kV8 dc8 pm8 cd8 ct8 oc9 kV9 dc9 pm9 cd9 ct9 oc10 kV10 dc10 pm10 cd10 ct10 oc11 kV11 dc11 pm11 cd11 ct11 oc12 kV12 dc12 pm12 cd12 ct12 : Value}
    (a1 : PySem.W.nsIn K mainGlobals "line_of" = some (some (.ref f1))) (l1 : K.lookup f1 = some ⟨oc1, od1, .func (PySem.W.fnOf "line_of" "line_of" (defArgs sLine) (defBody sLine) (defScope sLine) .none kV1 dc1 pm1 an1 cd1 ct1), sl1⟩) (c1 : PySem.W.codeIn K cd1 "line_of" = true) (k1 : PySem.W.keepIn K (.ref f1) = true)
    (a2 : PySem.W.nsIn K mainGlobals "shown" = some (some (.ref f2))) (l2 : K.lookup f2 = some ⟨oc2, od2, .func (PySem.W.fnOf "shown" "shown" (defArgs sShown) (defBody sShown) (defScope sShown) .none kV2 dc2 pm2 an2 cd2 ct2), sl2⟩) (c2 : PySem.W.codeIn K cd2 "shown" = true) (k2 : PySem.W.keepIn K (.ref f2) = true)
    (a3 : PySem.W.nsIn K mainGlobals "is_number" = some (some (.ref f3))) (l3 : K.lookup f3 = some ⟨oc3, od3, .func (PySem.W.fnOf "is_number" "is_number" (defArgs sIsNum) (defBody sIsNum) (defScope sIsNum) .none kV3 dc3 pm3 an3 cd3 ct3), sl3⟩) (c3 : PySem.W.codeIn K cd3 "is_number" = true) (k3 : PySem.W.keepIn K (.ref f3) = true)
    (a4 : PySem.W.nsIn K mainGlobals "number_of" = some (some (.ref f4))) (l4 : K.lookup f4 = some ⟨oc4, od4, .func (PySem.W.fnOf "number_of" "number_of" (defArgs sNumOf) (defBody sNumOf) (defScope sNumOf) .none kV4 dc4 pm4 an4 cd4 ct4), sl4⟩) (c4 : PySem.W.codeIn K cd4 "number_of" = true) (k4 : PySem.W.keepIn K (.ref f4) = true)
    (a5 : PySem.W.nsIn K mainGlobals "row_of" = some (some (.ref f5))) (l5 : K.lookup f5 = some ⟨oc5, od5, .func (PySem.W.fnOf "row_of" "row_of" (defArgs sRowOf) (defBody sRowOf) (defScope sRowOf) .none kV5 dc5 pm5 an5 cd5 ct5), sl5⟩) (c5 : PySem.W.codeIn K cd5 "row_of" = true) (k5 : PySem.W.keepIn K (.ref f5) = true)
    (a6 : PySem.W.nsIn K mainGlobals "read" = some (some (.ref f6))) (l6 : K.lookup f6 = some ⟨oc6, od6, .func (PySem.W.fnOf "read" "read" (defArgs sRead) (defBody sRead) (defScope sRead) .none kV6 dc6 pm6 an6 cd6 ct6), sl6⟩) (c6 : PySem.W.codeIn K cd6 "read" = true) (k6 : PySem.W.keepIn K (.ref f6) = true)
    (a7 : PySem.W.nsIn K mainGlobals "_law_whole" = some (some (.ref f7))) (l7 : K.lookup f7 = some ⟨oc7, od7, .func (PySem.W.fnOf "_law_whole" "_law_whole" (defArgs sWhole) (defBody sWhole) (defScope sWhole) .none kV7 dc7 pm7 an7 cd7 ct7), sl7⟩) (c7 : PySem.W.codeIn K cd7 "_law_whole" = true) (k7 : PySem.W.keepIn K (.ref f7) = true)
    (a8 : PySem.W.nsIn K mainGlobals "_law_are_rows" = some (some (.ref f8))) (l8 : K.lookup f8 = some ⟨oc8, od8, .func (PySem.W.fnOf "_law_are_rows" "_law_are_rows" (defArgs sAreRows) (defBody sAreRows) (defScope sAreRows) .none kV8 dc8 pm8 an8 cd8 ct8), sl8⟩) (c8 : PySem.W.codeIn K cd8 "_law_are_rows" = true) (k8 : PySem.W.keepIn K (.ref f8) = true)
    (a9 : PySem.W.nsIn K mainGlobals "_law_refused" = some (some (.ref f9))) (l9 : K.lookup f9 = some ⟨oc9, od9, .func (PySem.W.fnOf "_law_refused" "_law_refused" (defArgs sRefused) (defBody sRefused) (defScope sRefused) .none kV9 dc9 pm9 an9 cd9 ct9), sl9⟩) (c9 : PySem.W.codeIn K cd9 "_law_refused" = true) (k9 : PySem.W.keepIn K (.ref f9) = true)
    (a10 : PySem.W.nsIn K mainGlobals "_law_under_base" = some (some (.ref f10))) (l10 : K.lookup f10 = some ⟨oc10, od10, .func (PySem.W.fnOf "_law_under_base" "_law_under_base" (defArgs sUnder) (defBody sUnder) (defScope sUnder) .none kV10 dc10 pm10 an10 cd10 ct10), sl10⟩) (c10 : PySem.W.codeIn K cd10 "_law_under_base" = true) (k10 : PySem.W.keepIn K (.ref f10) = true)
    (a11 : PySem.W.nsIn K mainGlobals "_law_drawn_rows" = some (some (.ref f11))) (l11 : K.lookup f11 = some ⟨oc11, od11, .func (PySem.W.fnOf "_law_drawn_rows" "_law_drawn_rows" (defArgs sDrawn) (defBody sDrawn) (defScope sDrawn) .none kV11 dc11 pm11 an11 cd11 ct11), sl11⟩) (c11 : PySem.W.codeIn K cd11 "_law_drawn_rows" = true) (k11 : PySem.W.keepIn K (.ref f11) = true)
    (a12 : PySem.W.nsIn K mainGlobals "law" = some (some (.ref f12))) (l12 : K.lookup f12 = some ⟨oc12, od12, .func (PySem.W.fnOf "law" "law" (defArgs sLaw) (defBody sLaw) (defScope sLaw) .none kV12 dc12 pm12 an12 cd12 ct12), sl12⟩) (c12 : PySem.W.codeIn K cd12 "law" = true) (k12 : PySem.W.keepIn K (.ref f12) = true)
    (z1 : PySem.W.nsIn K mainGlobals "len" = some none)
    (z2 : PySem.W.nsIn K mainGlobals "range" = some none)
    (z3 : PySem.W.nsIn K mainGlobals "sorted" = some none)
    (z4 : PySem.W.nsIn K mainGlobals "isinstance" = some none)
    (z5 : PySem.W.nsIn K mainGlobals "int" = some none)
    (z6 : PySem.W.nsIn K mainGlobals "bool" = some none)
    (z7 : PySem.W.nsIn K mainGlobals "str" = some none)
    (z8 : PySem.W.nsIn K mainGlobals "dict" = some none)
    (z9 : PySem.W.nsIn K mainGlobals "list" = some none)
    (z10 : PySem.W.nsIn K mainGlobals "tuple" = some none)
    (z11 : PySem.W.nsIn K mainGlobals "all" = some none)
    (z12 : PySem.W.nsIn K mainGlobals "ValueError" = some none)
    (xa1 : PySem.W.nsIn K mainGlobals "NoKeeper" = some (some (.ref e1)))
    (xa2 : PySem.W.nsIn K mainGlobals "KeeperThere" = some (some (.ref e2)))
    (xa3 : PySem.W.nsIn K mainGlobals "NoShare" = some (some (.ref e3)))
    (xa4 : PySem.W.nsIn K mainGlobals "NoName" = some (some (.ref e4)))
    (xa5 : PySem.W.nsIn K mainGlobals "NameThere" = some (some (.ref e5)))
    (xa6 : PySem.W.nsIn K mainGlobals "NoLine" = some (some (.ref e6)))
    (xa7 : PySem.W.nsIn K mainGlobals "RingError" = some (some (.ref e7)))
    (xe1 : PySem.W.excIn K e1 [.type "ValueError", .type "Exception", .type "BaseException", .type "object"] "ValueError.__new__" = true) (xm1 : PySem.W.mroIn K e6 (.ref e1) = some false)
    (xe2 : PySem.W.excIn K e2 [.type "ValueError", .type "Exception", .type "BaseException", .type "object"] "ValueError.__new__" = true) (xm2 : PySem.W.mroIn K e6 (.ref e2) = some false)
    (xe3 : PySem.W.excIn K e3 [.type "ValueError", .type "Exception", .type "BaseException", .type "object"] "ValueError.__new__" = true) (xm3 : PySem.W.mroIn K e6 (.ref e3) = some false)
    (xe4 : PySem.W.excIn K e4 [.type "ValueError", .type "Exception", .type "BaseException", .type "object"] "ValueError.__new__" = true) (xm4 : PySem.W.mroIn K e6 (.ref e4) = some false)
    (xe5 : PySem.W.excIn K e5 [.type "ValueError", .type "Exception", .type "BaseException", .type "object"] "ValueError.__new__" = true) (xm5 : PySem.W.mroIn K e6 (.ref e5) = some false)
    (xe6 : PySem.W.excIn K e6 [.type "ValueError", .type "Exception", .type "BaseException", .type "object"] "ValueError.__new__" = true) (xm6 : PySem.W.mroIn K e6 (.ref e6) = some true)
    (xe7 : PySem.W.excIn K e7 [.type "ValueError", .type "Exception", .type "BaseException", .type "object"] "ValueError.__new__" = true) (xm7 : PySem.W.mroIn K e6 (.ref e7) = some true)
    (xga : PySem.W.findIn K (.ref e6) "__getattribute__" = some (some (.builtin "BaseException.__getattribute__")))
    (xgt : PySem.W.findIn K (.ref e6) "__getattr__" = some (none))
    (xcl : PySem.W.findIn K (.ref e6) "__class__" = some (some (.builtin "object.__class__")))
    (xv : PySem.W.mroIn K e6 (.type "ValueError") = some true) (aF : PySem.W.nsIn K mainGlobals "FIGURES" = some (some (.str TX.figs tF)))
    : ∃ fd : FuncData, (∀ (s : Shared) (v : Value), BindsTo s fd ⟨[v], []⟩ [("_law_script", v)]) ∧ ∀ base : Heap, K.In base → base.Ns mainGlobals mg → FnOk l.prog w K mg base CX0 6 fa fd ["_law_script"] (spLaw K) := by
  have e := hfa.symm.trans (PySem.W.mg_of X G a12)
  cases e
  have B : Blt mg := ⟨PySem.W.mg_none_of X G z1, PySem.W.mg_none_of X G z2, PySem.W.mg_none_of X G z3, PySem.W.mg_none_of X G z4, PySem.W.mg_none_of X G z5, PySem.W.mg_none_of X G z6, PySem.W.mg_none_of X G z7, PySem.W.mg_none_of X G z8, PySem.W.mg_none_of X G z9, PySem.W.mg_none_of X G z10⟩
  have hall : mg "all" = none := PySem.W.mg_none_of X G z11
  have hValueError : mg "ValueError" = none := PySem.W.mg_none_of X G z12
  have A1 := fn_mk (st := sLine) (ps := ["name", "keeper"]) X G a1 l1 c1 k1 ((fun_mk (st := sLine) l1 c1 k1).binds (ps := ["name", "keeper"]) fun _ _ _ _ _ _ us hl => by obtain ⟨_, _, rfl⟩ := len2 hl; rfl)
  have A2 := fn_mk (st := sShown) (ps := ["rows"]) X G a2 l2 c2 k2 ((fun_mk (st := sShown) l2 c2 k2).binds (ps := ["rows"]) fun _ _ _ _ _ _ us hl => by obtain ⟨_, rfl⟩ := len1 hl; rfl)
  have A3 := fn_mk (st := sIsNum) (ps := ["word"]) X G a3 l3 c3 k3 ((fun_mk (st := sIsNum) l3 c3 k3).binds (ps := ["word"]) fun _ _ _ _ _ _ us hl => by obtain ⟨_, rfl⟩ := len1 hl; rfl)
  have A4 := fn_mk (st := sNumOf) (ps := ["word"]) X G a4 l4 c4 k4 ((fun_mk (st := sNumOf) l4 c4 k4).binds (ps := ["word"]) fun _ _ _ _ _ _ us hl => by obtain ⟨_, rfl⟩ := len1 hl; rfl)
  have A5 := fn_mk (st := sRowOf) (ps := ["line"]) X G a5 l5 c5 k5 ((fun_mk (st := sRowOf) l5 c5 k5).binds (ps := ["line"]) fun _ _ _ _ _ _ us hl => by obtain ⟨_, rfl⟩ := len1 hl; rfl)
  have A6 := fn_mk (st := sRead) (ps := ["lines"]) X G a6 l6 c6 k6 ((fun_mk (st := sRead) l6 c6 k6).binds (ps := ["lines"]) fun _ _ _ _ _ _ us hl => by obtain ⟨_, rfl⟩ := len1 hl; rfl)
  have A7 := fn_mk (st := sWhole) (ps := ["_law_found"]) X G a7 l7 c7 k7 ((fun_mk (st := sWhole) l7 c7 k7).binds (ps := ["_law_found"]) fun _ _ _ _ _ _ us hl => by obtain ⟨_, rfl⟩ := len1 hl; rfl)
  have A8 := fn_mk (st := sAreRows) (ps := ["_law_found", "_law_names"]) X G a8 l8 c8 k8 ((fun_mk (st := sAreRows) l8 c8 k8).binds (ps := ["_law_found", "_law_names"]) fun _ _ _ _ _ _ us hl => by obtain ⟨_, _, rfl⟩ := len2 hl; rfl)
  have A9 := fn_mk (st := sRefused) (ps := ["_law_lines"]) X G a9 l9 c9 k9 ((fun_mk (st := sRefused) l9 c9 k9).binds (ps := ["_law_lines"]) fun _ _ _ _ _ _ us hl => by obtain ⟨_, rfl⟩ := len1 hl; rfl)
  have A10 := fn_mk (st := sUnder) (ps := ["_law_lines"]) X G a10 l10 c10 k10 ((fun_mk (st := sUnder) l10 c10 k10).binds (ps := ["_law_lines"]) fun _ _ _ _ _ _ us hl => by obtain ⟨_, rfl⟩ := len1 hl; rfl)
  have A11 := fn_mk (st := sDrawn) (ps := ["_law_cells"]) X G a11 l11 c11 k11 ((fun_mk (st := sDrawn) l11 c11 k11).binds (ps := ["_law_cells"]) fun _ _ _ _ _ _ us hl => by obtain ⟨_, rfl⟩ := len1 hl; rfl)
  have FL := fun_mk (st := sLaw) l12 c12 k12
  refine ⟨PySem.W.fnOf "law" "law" (defArgs sLaw) (defBody sLaw) (defScope sLaw) .none kV12 dc12 pm12 an12 cd12 ct12, fun s v => .of_eq rfl, fun base _ _ => ?_⟩
  have NL : NoL K mg e6 := ⟨PySem.W.mg_of X G xa6, ⟨xe6⟩⟩
  have XX : Exx K mg (cRx e1 e2 e3 e4 e5 e6) e7 := ⟨fun r => match r with | .nk => PySem.W.mg_of X G xa1 | .kt => PySem.W.mg_of X G xa2 | .ns => PySem.W.mg_of X G xa3 | .nn => PySem.W.mg_of X G xa4 | .nt => PySem.W.mg_of X G xa5 | .nl => PySem.W.mg_of X G xa6, PySem.W.mg_of X G xa7, ⟨xe7⟩, ⟨⟨xe6⟩, xga, xgt, xcl⟩, xm7, fun r => match r with | .nk => kit_exc ⟨xe1⟩ xm1 | .kt => kit_exc ⟨xe2⟩ xm2 | .ns => kit_exc ⟨xe3⟩ xm3 | .nn => kit_exc ⟨xe4⟩ xm4 | .nt => kit_exc ⟨xe5⟩ xm5 | .nl => kit_exc ⟨xe6⟩ xm6, kit_ve xv⟩
  have G1 := ok_line (P := l.prog) (w := w) (K := K) (mg := mg) (base := base) A1.F
  have G2 := ok_shown (P := l.prog) (w := w) (K := K) (mg := mg) (base := base) A2.F ⟨_, _, A1, G1⟩
  have G3 := ok_isnum (P := l.prog) (w := w) (K := K) (mg := mg) (base := base) A3.F (PySem.W.mg_of X G aF) hall
  have G4 := ok_numof (P := l.prog) (w := w) (K := K) (mg := mg) (base := base) A4.F B NL ⟨_, _, A3, G3⟩
  have G5 := ok_rowof (P := l.prog) (w := w) (K := K) (mg := mg) (base := base) A5.F B NL A4 G4
  have G6 := ok_read (P := l.prog) (w := w) (K := K) (mg := mg) (base := base) A6.F B NL A5 G5
  have G7 := ok_whole (P := l.prog) (w := w) (K := K) (mg := mg) (base := base) A7.F B
  have G8 := ok_arerows (P := l.prog) (w := w) (K := K) (mg := mg) (base := base) A8.F B ⟨_, _, A7, G7⟩
  have G9 := ok_refused (P := l.prog) (w := w) (K := K) (mg := mg) (base := base) A9.F NL xm6 A6 G6
  have G10 := ok_under (P := l.prog) (w := w) (K := K) (mg := mg) (base := base) A10.F B hValueError XX A6 G6
  have G11 := ok_drawn (P := l.prog) (w := w) (K := K) (mg := mg) (base := base) A11.F B
  exact ok_law FL B A6 G6 ⟨_, _, A11, G11⟩ ⟨_, _, A2, G2⟩ ⟨_, _, A8, G8⟩ ⟨_, _, A9, G9⟩ ⟨_, _, A10, G10⟩
theorem walk {l : PySem.W.OpenLaw} {q : Program} {loose : List Str} {XP : (Str → Option Value) → Heap → Prop} {YP : World → Heap → Prop} {d : DefRec} {K : Params → PySem.W.Frag} (hn : l.most = some 63) (hdf : d.params.defaults = [])
    (hY : ∀ (w : World) (h : Heap), YP w h → (K w.params).In h)
    (F : ∀ (w : World) (mg : Str → Option Value) (fa : Addr) (h : Heap), (K w.params).In h → h.Ns mainGlobals mg → mg d.name = some (.ref fa) →
      ∃ fd : FuncData, (∀ (s : Shared) (u : Value), BindsTo s fd ⟨[u], []⟩ [("_law_script", u)]) ∧ ∀ base : Heap, (K w.params).In base → base.Ns mainGlobals mg → FnOk l.prog w (K w.params) mg base CX0 6 fa fd ["_law_script"] (spLaw (K w.params))) :
    PySem.W.WalkO q loose XP YP l.row.toRowW d [] (fun f vs => PySem.call f vs) :=
  L2.walk_of (n := 63) (k := 6) (x := "_law_script") (CX := fun _ => CX0) (sp := fun w => spLaw (K w.params)) hn (by decide) hdf ⟨rfl, by decide, by decide⟩ hY F (fun _ _ a ns hl _ hS => ⟨a, ns, rfl, hS, hl, fun _ => rfl⟩) fun _ _ _ _ _ z => z
end RK

open PySem PySem.W PyProof.Rows
set_option maxRecDepth 100000 in
set_option maxHeartbeats 0 in
theorem PySem.Challenge.cw_ringdeal_k11_deals_on_lines_holds : PySem.Challenge.rw_ringdeal_k11_deals_on_lines.Holds := by
  w_on; o_law; k_head; (case hw => w_witness2)
  k_fill
  refine RK.walk (l := PySem.Challenge.rw_ringdeal_k11_deals_on_lines) rfl rfl (fun w h Y => PySem.W.kIn_of Y) ?F
  case F =>
    intro w mg fa h KX G hmg
    refine' RK.all_mk KX G hmg ?a1 ?l1 ?c1 ?k1 ?a2 ?l2 ?c2 ?k2 ?a3 ?l3 ?c3 ?k3 ?a4 ?l4 ?c4 ?k4 ?a5 ?l5 ?c5 ?k5 ?a6 ?l6 ?c6 ?k6 ?a7 ?l7 ?c7 ?k7 ?a8 ?l8 ?c8 ?k8 ?a9 ?l9 ?c9 ?k9 ?a10 ?l10 ?c10 ?k10 ?a11 ?l11 ?c11 ?k11 ?a12 ?l12 ?c12 ?k12 ?z1 ?z2 ?z3 ?z4 ?z5 ?z6 ?z7 ?z8 ?z9 ?z10 ?z11 ?z12 ?xa1 ?xa2 ?xa3 ?xa4 ?xa5 ?xa6 ?xa7 ?xe1 ?xm1 ?xe2 ?xm2 ?xe3 ?xm3 ?xe4 ?xm4 ?xe5 ?xm5 ?xe6 ?xm6 ?xe7 ?xm7 ?xga ?xgt ?xcl ?xv ?aF
    case a1 => k_is
    case l1 => k_is
    case c1 => k_is
    case k1 => k_is
    case a2 => k_is
    case l2 => k_is
    case c2 => k_is
    case k2 => k_is
    case a3 => k_is
    case l3 => k_is
    case c3 => k_is
    case k3 => k_is
    case a4 => k_is
    case l4 => k_is
    case c4 => k_is
    case k4 => k_is
    case a5 => k_is
    case l5 => k_is
    case c5 => k_is
    case k5 => k_is
    case a6 => k_is
    case l6 => k_is
    case c6 => k_is
    case k6 => k_is
    case a7 => k_is
    case l7 => k_is
    case c7 => k_is
    case k7 => k_is
    case a8 => k_is
    case l8 => k_is
    case c8 => k_is
    case k8 => k_is
    case a9 => k_is
    case l9 => k_is
    case c9 => k_is
    case k9 => k_is
    case a10 => k_is
    case l10 => k_is
    case c10 => k_is
    case k10 => k_is
    case a11 => k_is
    case l11 => k_is
    case c11 => k_is
    case k11 => k_is
    case a12 => k_is
    case l12 => k_is
    case c12 => k_is
    case k12 => k_is
    case z1 => k_is
    case z2 => k_is
    case z3 => k_is
    case z4 => k_is
    case z5 => k_is
    case z6 => k_is
    case z7 => k_is
    case z8 => k_is
    case z9 => k_is
    case z10 => k_is
    case z11 => k_is
    case z12 => k_is
    case xa1 => k_is
    case xa2 => k_is
    case xa3 => k_is
    case xa4 => k_is
    case xa5 => k_is
    case xa6 => k_is
    case xa7 => k_is
    case xe1 => k_exc
    case xm1 => k_is
    case xe2 => k_exc
    case xm2 => k_is
    case xe3 => k_exc
    case xm3 => k_is
    case xe4 => k_exc
    case xm4 => k_is
    case xe5 => k_exc
    case xm5 => k_is
    case xe6 => k_exc
    case xm6 => k_is
    case xe7 => k_exc
    case xm7 => k_is
    case xga => k_is
    case xgt => k_is
    case xcl => k_is
    case xv => k_is
    case aF => k_is
#print axioms PySem.Challenge.cw_ringdeal_k11_deals_on_lines_holds
