import PyProof.Rows.All
import Wide.All
import OpenK.AllK
import Wide.FinOn
import Lean
import PyProof.EqAt
import PyProof.EqKinds
import PyProof.TupleCall
import PyProof.ExcArgsOwn
import PyProof.ExcAttrAll.ValueError
import PyProof.EnumMake
import PyProof.EnumFor
import PyProof.NeKinds
import PySem.Challenge.RW_figurefall_k11_many
set_option Elab.async false
set_option linter.all false
set_option maxRecDepth 100000
namespace L2
open PySem PySem.Spec PyProof.Rows

/-- a key: an int or a str -/
abbrev Key := Sum Int Str
def keyIs : Key → Value → Bool
  | .inl k, v => Value.isInt k v
  | .inr x, v => Value.isStrOf x v
def keyH (w : World) : Key → Int
  | .inl k => hashInt k
  | .inr x => hashStr w x
theorem keyIs_shape : ∀ {k : Key} {v : Value}, keyIs k v = true → (∃ i t, k = Sum.inl i ∧ v = Value.int i t) ∨ (∃ x t, k = Sum.inr x ∧ v = Value.str x t)
  | .inl i, v, h => by
    obtain ⟨t, e⟩ := Value.isInt_shape (k := i) (v := v) h
    exact .inl ⟨i, t, rfl, e⟩
  | .inr x, v, h => by
    obtain ⟨t, e⟩ := Value.isStrOf_shape (x := x) (v := v) h
    exact .inr ⟨x, t, rfl, e⟩
theorem keyIs_int (i : Int) (t : Tok) : keyIs (.inl i) (.int i t) = true := by simp [keyIs, Value.isInt]
theorem keyIs_str (x : Str) (t : Tok) : keyIs (.inr x) (.str x t) = true := by simp [keyIs, Value.isStrOf]
theorem key_ll (a b : Int) : decide ((Sum.inl a : Key) = Sum.inl b) = (a == b) := by
  by_cases e : a = b
  · subst e; simp
  · have h : ¬ (Sum.inl a : Key) = Sum.inl b := fun q => e (Sum.inl.inj q)
    rw [decide_eq_false h]
    exact (beq_eq_false_iff_ne.mpr e).symm
theorem key_rr (a b : Str) : decide ((Sum.inr a : Key) = Sum.inr b) = decide (a = b) := by
  by_cases e : a = b
  · subst e; simp
  · have h : ¬ (Sum.inr a : Key) = Sum.inr b := fun q => e (Sum.inr.inj q)
    rw [decide_eq_false h, decide_eq_false e]
theorem key_lr (a : Int) (b : Str) : decide ((Sum.inl a : Key) = Sum.inr b) = false := decide_eq_false (fun q => nomatch q)
theorem key_rl (a : Str) (b : Int) : decide ((Sum.inr a : Key) = Sum.inl b) = false := decide_eq_false (fun q => nomatch q)

def mixKind (prog : Program) (w : World) : PySem.KeyKind prog w Key where
  is := keyIs
  hash := keyH w
  inj := fun v a b ha hb => by
    rcases keyIs_shape ha with ⟨i, t, rfl, rfl⟩ | ⟨x, t, rfl, rfl⟩
    · rcases keyIs_shape hb with ⟨j, u, rfl, e⟩ | ⟨y, u, rfl, e⟩
      · injection e with e1 _; rw [e1]
      · exact nomatch e
    · rcases keyIs_shape hb with ⟨j, u, rfl, e⟩ | ⟨y, u, rfl, e⟩
      · exact nomatch e
      · injection e with e1 _; rw [e1]
  byValue := fun k v h => by
    rcases keyIs_shape h with ⟨i, t, rfl, rfl⟩ | ⟨x, t, rfl, rfl⟩ <;> rfl
  pyHash := fun hv h => by
    rcases keyIs_shape hv with ⟨i, t, rfl, rfl⟩ | ⟨x, t, rfl, rfl⟩
    · exact wpAny_pyHash_int h
    · exact wpAny_pyHash_str h
  eqBool := fun hu hv h => by
    rcases keyIs_shape hu with ⟨i, t, rfl, rfl⟩ | ⟨x, t, rfl, rfl⟩
    · rcases keyIs_shape hv with ⟨j, u, rfl, rfl⟩ | ⟨y, u, rfl, rfl⟩
      · rw [key_ll] at h; exact wpAny_eqBool_int h
      · rw [key_lr] at h; exact SeqAt.EqAt.int_str i t y u _ _ _ _ h
    · rcases keyIs_shape hv with ⟨j, u, rfl, rfl⟩ | ⟨y, u, rfl, rfl⟩
      · rw [key_rl] at h; exact SeqAt.EqAt.str_int x t j u _ _ _ _ h
      · rw [key_rr] at h; exact wpAny_eqBool_str h
  «strs» := fun k x t v h => by
    rcases keyIs_shape h with ⟨i, u, rfl, e⟩ | ⟨y, u, rfl, e⟩
    · exact nomatch e
    · injection e with e1 _
      subst e1
      cases v <;> rfl

theorem mixKind_int (prog : Program) (w : World) (i : Int) (t : Tok) : (mixKind prog w).is (.inl i) (.int i t) = true := keyIs_int i t
theorem mixKind_str (prog : Program) (w : World) (x : Str) (t : Tok) : (mixKind prog w).is (.inr x) (.str x t) = true := keyIs_str x t
end L2

namespace L2
open PySem PySem.Spec PyProof.Rows

/-- a value, without the heap -/
inductive V where
  | non | bl (b : Bool) | int (i : Int) | str (x : Str) | byt (b : Array UInt8) | flt (b : UInt64) | ref (a : Addr) | ty (n : String)
  deriving DecidableEq

def RelV : V → Value → Prop
  | .non, u => u = Value.none
  | .bl b, u => u = Value.bool b
  | .int i, u => ∃ t, u = Value.int i t
  | .str x, u => ∃ t, u = Value.str x t
  | .byt b, u => ∃ t, u = Value.bytes b t
  | .flt b, u => ∃ t, u = Value.float b t
  | .ref a, u => u = Value.ref a
  | .ty n, u => u = Value.type n

abbrev Vals : List V → List Value → Prop := Paired RelV
theorem Vals.length {xs : List V} {us : List Value} (r : Vals xs us) : xs.length = us.length := Paired.length r
theorem Vals.get : ∀ {xs : List V} {us : List Value} {i : Nat} {x : V}, Vals xs us → xs[i]? = some x → ∃ u, us[i]? = some u ∧ RelV x u
  | _, _, _, _, .nil, e => by simp at e
  | _, _, 0, _, .cons r _, e => by simp at e; subst e; exact ⟨_, rfl, r⟩
  | _, _, i + 1, x, .cons _ t, e => by
    obtain ⟨u, h1, h2⟩ := Vals.get (i := i) (x := x) t (by simpa using e)
    exact ⟨u, by simpa using h1, h2⟩
theorem Vals.set {x : V} {u : Value} (r : RelV x u) : ∀ {xs : List V} {us : List Value} (i : Nat), Vals xs us → Vals (xs.set i x) (us.set i u)
  | _, _, _, .nil => .nil
  | _, _, 0, .cons _ t => .cons r t
  | _, _, i + 1, .cons q t => .cons q (Vals.set r i t)
theorem Vals.append : ∀ {xs ys : List V} {us ws : List Value}, Vals xs us → Vals ys ws → Vals (xs ++ ys) (us ++ ws)
  | _, _, _, _, .nil, s => s
  | _, _, _, _, .cons r t, s => .cons r (Vals.append t s)
theorem Vals.take : ∀ {xs : List V} {us : List Value} (n : Nat), Vals xs us → Vals (xs.take n) (us.take n)
  | _, _, 0, _ => .nil
  | _, _, _ + 1, .nil => .nil
  | _, _, n + 1, .cons r t => .cons r (Vals.take n t)
theorem Vals.drop : ∀ {xs : List V} {us : List Value} (n : Nat), Vals xs us → Vals (xs.drop n) (us.drop n)
  | _, _, 0, r => r
  | _, _, _ + 1, .nil => .nil
  | _, _, n + 1, .cons _ t => Vals.drop n t
def RelO : Option V → Option Value → Prop
  | some v, some u => RelV v u
  | none, none => True
  | _, _ => False
def KV {κ : Type} : List (κ × V) → List (κ × Value) → Prop := Paired fun (p : κ × V) (q : κ × Value) => p.1 = q.1 ∧ RelV p.2 q.2

/-- a key of a dict (00_mix): an int or a text -/
def kV : Key → V
  | .inl i => .int i
  | .inr x => .str x

/-- what stands at a tracked address -/
inductive HO where
  /-- a list -/
  | lst (xs : List V)
  /-- a tuple (never changes) -/
  | tup (xs : List V)
  /-- a dict whose keys are ints and texts; one whose keys are tuples of ints and texts (the empty one is both) -/
  | dK (kvs : List (Key × V)) | dT (kvs : List (List Key × V))
  /-- a set of ints: its members, its size -/
  | set (S : Int → Bool) (n : Nat)
  /-- an instance of the class at C, its dict at dx, its attributes -/
  | ins (C dx : Addr) (fs : List (Str × V))
  /-- the dict of the instance at x -/
  | own (x : Addr)
  /-- the dict of an exception -/
  | xd (fs : List (Str × V))
  /-- a bound method, f of x -/
  | met (f x : Addr)
  /-- a range object lo, lo + 1, .. below hi -/
  | rng (lo hi : Int)
  /-- a thing that is known to the object (the script; a dict while a loop walks it): read, never written while it is so -/
  | frz (o : Obj) (u : HO)
  /-- a code object's table -/
  | tbl (ps : Array Value)
  /-- any other thing, by what is true of its one object (a def of one's own: SetO a S n := HO.ext fun h => ..) -/
  | ext (φ : Heap → Prop)

abbrev Hp := Addr → Option HO
def upd (H : Hp) (a : Addr) (o : HO) : Hp := fun b => if b = a then some o else H b
theorem upd_same {H : Hp} {a : Addr} {o : HO} : upd H a o a = some o := by unfold upd; rw [if_pos rfl]
theorem upd_ne {H : Hp} {a b : Addr} {o : HO} (h : b ≠ a) : upd H a o b = H b := by unfold upd; rw [if_neg h]
/-- two objects of different content stand apart -/
theorem ne_of {H : Hp} {a b : Addr} {o u : HO} (h : H a = some o) (h' : H b = some u) (d : o ≠ u) : a ≠ b := by
  intro e; subst e; rw [h] at h'; exact d (Option.some.inj h')
theorem ne_of_none {H : Hp} {a b : Addr} {o : HO} (h : H a = some o) (h' : H b = none) : a ≠ b := by
  intro e; subst e; rw [h] at h'; cases h'

section
variable (P : Program) (w : World)
def ObjOk (H : Hp) (h : Heap) (a : Addr) : HO → Prop
  | .lst xs => xs.length ≤ sizeLine ∧ ∃ (its : List Value) (n : Nat), Vals xs its ∧ h.get? a = some { cls := .type "list", data := .seq its.toArray n }
  | .tup xs => xs.length ≤ sizeLine ∧ ∃ its : List Value, Vals xs its ∧ IsTup h a its.toArray
  | .dK kvs => kvs.length ≤ sizeLine ∧ (a == sysModules) = false ∧ ∃ vs, KV kvs vs ∧ h.DictOf (mixKind P w) a vs
  | .dT kvs => kvs.length ≤ sizeLine ∧ (a == sysModules) = false ∧ ∃ xs : List (List Key × Addr × Value),
      Paired (fun (p : List Key × V) (q : List Key × Addr × Value) => p.1 = q.1 ∧ H q.2.1 = some (.tup (p.1.map kV)) ∧ RelV p.2 q.2.2) kvs xs ∧
      ∃ o es ep, h.get? a = some o ∧ o.ExactDict ∧ o.data = .dict es ep ∧ es.toList = xs.map (entryOfKey (tupleKind (mixKind P w))) ∧ (xs.map (·.1)).Nodup
  | .set S n => h.SetOf (intKind P w) a S n
  | .ins C dx fs => H dx = some (.own a) ∧ fs.length ≤ 1000 ∧ dx ≠ a ∧ h.get? a = some (PySem.W.instObj C dx) ∧
      ∃ mA, h.Ns1 dx mA ∧ (∀ f, RelO (fs.lookup f) (mA f)) ∧ PySem.Within mA (fs.map (·.1))
  | .own _ => ∃ o, h.get? a = some o
  | .xd fs => ∃ mA, h.Ns1 a mA ∧ ∀ f, RelO (fs.lookup f) (mA f)
  | .rng lo hi => ∃ t u v, h.get? a = some { cls := .type "range", data := .fields #[.int lo t, .int hi u, .int 1 v] }
  | .frz o u => h.get? a = some o ∧ ObjOk H h a u
  | .tbl ps => h.get? a = some { cls := .none, data := .fields ps }
  | .met f x => h.get? a = some (PySem.W.methodObj (.ref f) (.ref x))
  | .ext φ => φ h ∧ (∃ o, h.get? a = some o) ∧ ∀ h1 h2 : Heap, φ h1 → (∀ o, h1.get? a = some o → h2.get? a = some o) → φ h2
/-- the abstract heap is held -/
def HOk (H : Hp) (h : Heap) : Prop := ∀ a o, H a = some o → ObjOk P w H h a o
end

section
variable {P : Program} {w : World} {H H' : Hp} {h h' : Heap} {a : Addr} {o : HO}
theorem ObjOk.lt (x : ObjOk P w H h a o) : a < h.objs.size := by
  cases o with
  | lst xs => obtain ⟨_, _, _, _, e⟩ := x; exact Heap.lt_size e
  | tup xs => obtain ⟨_, _, _, p⟩ := x; exact p.lt
  | dK kvs => obtain ⟨_, _, _, _, o, _, _, e, _⟩ := x; exact Heap.lt_size e
  | dT kvs => obtain ⟨_, _, _, _, o, _, _, e, _⟩ := x; exact Heap.lt_size e
  | set S n => obtain ⟨o, _, _, _, e, _⟩ := x; exact Heap.lt_size e
  | ins C dx fs => obtain ⟨_, _, _, e, _⟩ := x; exact Heap.lt_size e
  | own y => obtain ⟨_, e⟩ := x; exact Heap.lt_size e
  | xd fs => obtain ⟨_, ⟨_, _, _, e, _⟩, _⟩ := x; exact Heap.lt_size e
  | rng lo hi => obtain ⟨_, _, _, e⟩ := x; exact Heap.lt_size e
  | frz ob u => obtain ⟨e, _⟩ := x; exact Heap.lt_size e
  | tbl ps => exact Heap.lt_size (show h.get? a = some _ from x)
  | met f y => exact Heap.lt_size (show h.get? a = some _ from x)
  | ext φ => obtain ⟨_, ⟨_, e⟩, _⟩ := x; exact Heap.lt_size e
theorem Paired.mapP {α β : Type} {F G : α → β → Prop} : ∀ {l₁ : List α} {l₂ : List β}, Paired F l₁ l₂ → (∀ a b, F a b → G a b) → Paired G l₁ l₂
  | _, _, .nil, _ => .nil
  | _, _, .cons r t, f => .cons (f _ _ r) (Paired.mapP t f)
/-- what an object's description leans on: its own object, its own dict, the tuples -/
theorem ObjOk.stay (x : ObjOk P w H h a o) (k : ∀ b u, (b = a ∨ H b = some (.own a)) → h.get? b = some u → h'.get? b = some u)
    (ho : ∀ b, H b = some (.own a) → H' b = some (.own a)) (ht : ∀ b xs, H b = some (.tup xs) → H' b = some (.tup xs)) : ObjOk P w H' h' a o := by
  induction o with
  | lst xs => obtain ⟨z, its, n, r, e⟩ := x; exact ⟨z, its, n, r, k _ _ (.inl rfl) e⟩
  | tup xs => obtain ⟨z, its, r, ob, e, c⟩ := x; exact ⟨z, its, r, ob, k _ _ (.inl rfl) e, c⟩
  | dK kvs => obtain ⟨z, y, vs, r, ob, es, ep, e, c⟩ := x; exact ⟨z, y, vs, r, ob, es, ep, k _ _ (.inl rfl) e, c⟩
  | dT kvs =>
    obtain ⟨z, y, xs, r, ob, es, ep, e, c⟩ := x
    exact ⟨z, y, xs, Paired.mapP r fun p q z => ⟨z.1, ht _ _ z.2.1, z.2.2⟩, ob, es, ep, k _ _ (.inl rfl) e, c⟩
  | set S n => obtain ⟨ob, es, ep, t, e, c⟩ := x; exact ⟨ob, es, ep, t, k _ _ (.inl rfl) e, c⟩
  | ins C dx fs =>
    obtain ⟨d, z, ne, e, mA, ⟨od, es, ep, e2, c⟩, r⟩ := x
    exact ⟨ho _ d, z, ne, k _ _ (.inl rfl) e, mA, ⟨od, es, ep, k _ _ (.inr d) e2, c⟩, r⟩
  | own y => obtain ⟨ob, e⟩ := x; exact ⟨ob, k _ _ (.inl rfl) e⟩
  | xd fs => obtain ⟨mA, ⟨od, es, ep, e, c⟩, r⟩ := x; exact ⟨mA, ⟨od, es, ep, k _ _ (.inl rfl) e, c⟩, r⟩
  | rng lo hi => obtain ⟨t, u, v, e⟩ := x; exact ⟨t, u, v, k _ _ (.inl rfl) e⟩
  | frz ob u ih => obtain ⟨e, q⟩ := x; exact ⟨k _ _ (.inl rfl) e, ih q⟩
  | tbl ps =>
    have e : h.get? a = some { cls := .none, data := .fields ps } := x
    show h'.get? a = some { cls := .none, data := .fields ps }
    exact k a _ (.inl rfl) e
  | met f y =>
    have e : h.get? a = some (PySem.W.methodObj (.ref f) (.ref y)) := x
    show h'.get? a = some (PySem.W.methodObj (.ref f) (.ref y))
    exact k a _ (.inl rfl) e
  | ext φ => obtain ⟨p, ⟨o, e⟩, st⟩ := x; exact ⟨st _ _ p fun o q => k _ _ (.inl rfl) q, ⟨o, k _ _ (.inl rfl) e⟩, st⟩
theorem HOk.lt (x : HOk P w H h) (e : H a = some o) : a < h.objs.size := (x a o e).lt
theorem HOk.fresh (x : HOk P w H h) (e : h.objs.size ≤ a) : H a = none := by
  cases q : H a with
  | none => rfl
  | some u => exact absurd (Nat.lt_of_lt_of_le (x.lt q) e) (Nat.lt_irrefl _)
/-- every object of the heap is kept -/
theorem HOk.kept (x : HOk P w H h) (k : ∀ b u, h.get? b = some u → h'.get? b = some u) : HOk P w H h' := fun a o e =>
  (x a o e).stay (fun b u _ q => k b u q) (fun _ q => q) fun _ _ q => q
/-- a new object is laid and tracked -/
theorem HOk.laid (x : HOk P w H h) (k : ∀ b u, h.get? b = some u → h'.get? b = some u) (hp : h.objs.size ≤ a) (new : ObjOk P w (upd H a o) h' a o) : HOk P w (upd H a o) h' := fun b u e => by
  have hn := x.fresh hp
  by_cases hb : b = a
  · subst hb; rw [upd_same] at e; cases e; exact new
  · rw [upd_ne hb] at e
    exact (x b u e).stay (fun c v _ q => k c v q) (fun c q => by rw [upd_ne (ne_of_none q hn)]; exact q) fun c xs q => by rw [upd_ne (ne_of_none q hn)]; exact q
end

/-- what may be read as u: it is u, or a known u -/
def Rd (H : Hp) (a : Addr) (u : HO) : Prop := H a = some u ∨ ∃ o, H a = some (.frz o u)
theorem Rd.of {H : Hp} {a : Addr} {u : HO} (h : H a = some u) : Rd H a u := .inl h
theorem Rd.ok {P : Program} {w : World} {H : Hp} {h : Heap} {a : Addr} {u : HO} (r : Rd H a u) (x : HOk P w H h) : ObjOk P w H h a u := by
  rcases r with r | ⟨o, r⟩
  · exact x a u r
  · obtain ⟨_, q⟩ := x a _ r
    exact q
/-- what may be written -/
def Mut : Option HO → Prop
  | some (.lst _) => True
  | some (.dK _) => True
  | some (.dT _) => True
  | some (.set _ _) => True
  | some (.ins _ _ _) => True
  | some (.ext _) => True
  | _ => False
section
variable {P : Program} {w : World} {H : Hp} {h h' : Heap} {x e : Addr} {o' : HO}
/-- the object at e is changed: x itself, or the dict of the instance x -/
theorem HOk.write (ok : HOk P w H h) (mu : Mut (H x)) (he : e = x ∨ H e = some (.own x)) (k : ∀ b u, b ≠ e → h.get? b = some u → h'.get? b = some u) (heo : ∃ u, h'.get? e = some u)
    (new : ObjOk P w (upd H x o') h' x o') : HOk P w (upd H x o') h' := fun b u q => by
  have nown : ∀ c y, H c = some (.own y) → c ≠ x := fun c y r z => by subst z; rw [r] at mu; exact mu
  have ntup : ∀ c xs, H c = some (.tup xs) → c ≠ x := fun c xs r z => by subst z; rw [r] at mu; exact mu
  by_cases hb : b = x
  · subst hb; rw [upd_same] at q; cases q; exact new
  · rw [upd_ne hb] at q
    by_cases hbe : b = e
    · have q' : H b = some (.own x) := by
        rcases he with z | z
        · exact absurd (hbe.trans z) hb
        · rw [hbe]; exact z
      rw [q] at q'; cases q'
      obtain ⟨v, hv⟩ := heo
      exact ⟨v, by rw [hbe]; exact hv⟩
    · refine (ok b u q).stay (fun c v hc r => k c v ?_ r) (fun c r => by rw [upd_ne (nown c b r)]; exact r) fun c xs r => by rw [upd_ne (ntup c xs r)]; exact r
      rcases hc with rfl | hc
      · exact hbe
      · rintro rfl
        rcases he with z | z
        · exact nown c b hc z
        · rw [hc] at z; cases z; exact hb rfl
end

/-! ### kept unless tracked; of the frames at fs (the callers') the slots may change (an exception that passes writes there); of the records at ex (iterators) nothing is said -/
structure Un (fs ex : List Addr) (H H' : Hp) (h h' : Heap) : Prop where
  keep : ∀ b o, h.get? b = some o → H b = none → b ∉ fs → b ∉ ex → h'.get? b = some o
  slot : ∀ b o, h.get? b = some o → H b = none → b ∈ fs → b ∉ ex → ∃ sl, h'.get? b = some { o with slots := sl }
  free : ∀ b o, h.get? b = some o → H b = none → b ∉ ex → H' b = none
  there : ∀ b o, h.get? b = some o → b ∉ ex → ∃ o', h'.get? b = some o'
  tups : ∀ b xs, H b = some (.tup xs) → H' b = some (.tup xs)
  frzs : ∀ b o u, H b = some (.frz o u) → H' b = some (.frz o u)
  tbls : ∀ b ps, H b = some (.tbl ps) → ∃ more, H' b = some (.tbl (ps ++ more))
section
variable {fs fs' ex ex' : List Addr} {H H1 H2 : Hp} {h h1 h2 h' : Heap} {a x e : Addr} {o : HO}
theorem Un.any (u : Un fs ex H H1 h h1) {b : Addr} {ob : Obj} (q : h.get? b = some ob) (n : H b = none) (hx : b ∉ ex) : ∃ sl, h1.get? b = some { ob with slots := sl } := by
  by_cases hb : b ∈ fs
  · exact u.slot b ob q n hb hx
  · exact ⟨ob.slots, u.keep b ob q n hb hx⟩
theorem Un.trans (a : Un fs ex H H1 h h1) (b : Un fs ex H1 H2 h1 h2) : Un fs ex H H2 h h2 where
  keep := fun c ob q n hc hx => b.keep c ob (a.keep c ob q n hc hx) (a.free c ob q n hx) hc hx
  slot := fun c ob q n hc hx => by
    obtain ⟨sl, e1⟩ := a.slot c ob q n hc hx
    obtain ⟨sl', e2⟩ := b.slot c _ e1 (a.free c ob q n hx) hc hx
    exact ⟨sl', e2⟩
  free := fun c ob q n hx => by
    obtain ⟨o', e1⟩ := a.there c ob q hx
    exact b.free c o' e1 (a.free c ob q n hx) hx
  there := fun c ob q hx => by
    obtain ⟨o', e1⟩ := a.there c ob q hx
    exact b.there c o' e1 hx
  tups := fun c xs q => b.tups c xs (a.tups c xs q)
  frzs := fun c ob xs q => b.frzs c ob xs (a.frzs c ob xs q)
  tbls := fun c ps q => by
    obtain ⟨m1, e1⟩ := a.tbls c ps q
    obtain ⟨m2, e2⟩ := b.tbls c _ e1
    exact ⟨m1 ++ m2, by rw [e2, Array.append_assoc]⟩
theorem Un.kept (k : ∀ b u, h.get? b = some u → h'.get? b = some u) : Un fs ex H H h h' :=
  ⟨fun b ob q _ _ _ => k b ob q, fun b ob q _ _ _ => ⟨ob.slots, k b ob q⟩, fun _ _ _ n _ => n, fun b ob q _ => ⟨ob, k b ob q⟩, fun _ _ q => q, fun _ _ _ q => q, fun _ ps q => ⟨#[], by rw [q]; simp⟩⟩
theorem Un.refl : Un fs ex H H h h := Un.kept fun _ _ q => q
theorem Un.laid (k : ∀ b u, h.get? b = some u → h'.get? b = some u) (hp : h.objs.size ≤ a) (hn : H a = none) : Un fs ex H (upd H a o) h h' where
  keep := fun b u q _ _ _ => k b u q
  slot := fun b u q _ _ _ => ⟨u.slots, k b u q⟩
  free := fun b u q n _ => by rw [upd_ne (Nat.ne_of_lt (Nat.lt_of_lt_of_le (Heap.lt_size q) hp))]; exact n
  there := fun b u q _ => ⟨u, k b u q⟩
  tups := fun b xs q => by rw [upd_ne (ne_of_none q hn)]; exact q
  frzs := fun b u xs q => by rw [upd_ne (ne_of_none q hn)]; exact q
  tbls := fun b ps q => ⟨#[], by rw [upd_ne (ne_of_none q hn), q]; simp⟩
theorem Un.write (mu : Mut (H x)) (he : e = x ∨ H e = some (.own x)) (k : ∀ b u, b ≠ e → h.get? b = some u → h'.get? b = some u) (heo : ∃ u, h'.get? e = some u) : Un fs ex H (upd H x o) h h' := by
  have hx : ∀ b, H b = none → b ≠ x := fun b n z => by subst z; rw [n] at mu; exact mu
  have hb : ∀ b, H b = none → b ≠ e := fun b n z => by
    subst z
    rcases he with r | r
    · exact hx b n r
    · rw [n] at r; cases r
  have hm : ∀ b u, H b = some u → ¬ Mut (some u) → b ≠ x := fun b u q nm z => by subst z; rw [q] at mu; exact nm mu
  refine ⟨fun b u q n _ _ => k b u (hb b n) q, fun b u q n _ _ => ⟨u.slots, k b u (hb b n) q⟩, fun b u q n _ => by rw [upd_ne (hx b n)]; exact n, fun b u q _ => ?_,
    fun b xs q => by rw [upd_ne (hm b _ q fun z => z)]; exact q, fun b u xs q => by rw [upd_ne (hm b _ q fun z => z)]; exact q, fun b ps q => ⟨#[], by rw [upd_ne (hm b _ q fun z => z), q]; simp⟩⟩
  by_cases hbe : b = e
  · subst hbe; exact heo
  · exact ⟨u, k b u hbe q⟩
theorem Un.mono (u : Un fs ex H H1 h h1) (hs : ∀ b ∈ fs, b ∈ fs') (hx : ∀ b ∈ ex, b ∈ ex') : Un fs' ex' H H1 h h1 :=
  ⟨fun b ob q n hb he => u.keep b ob q n (fun z => hb (hs b z)) fun z => he (hx b z), fun _ _ q n _ he => u.any q n fun z => he (hx _ z), fun b ob q n he => u.free b ob q n fun z => he (hx b z), fun b ob q he => u.there b ob q fun z => he (hx b z), u.tups, u.frzs, u.tbls⟩
end

/-! ### the heap without what is tracked -/
def trk (h : Heap) (H : Hp) : List Addr := (List.range h.objs.size).filter fun a => (H a).isSome
def hidT (h : Heap) (H : Hp) : Heap := PySem.W.hideAll h (trk h H)
theorem hidT_size (h : Heap) (H : Hp) : (hidT h H).objs.size = h.objs.size := PySem.W.hideAll_size _ _
theorem hidT_get {h : Heap} {H : Hp} {b : Addr} {o : Obj} (e : h.get? b = some o) (n : H b = none) : (hidT h H).get? b = some o :=
  PySem.W.hideAll_get _ e fun hm => by
    have q : (H b).isSome = true := (List.mem_filter.mp hm).2
    rw [n] at q; simp at q
theorem of_hidT {h : Heap} {H : Hp} {b : Addr} {o : Obj} (e : (hidT h H).get? b = some o) : h.get? b = some o ∧ H b = none := by
  have e' : h.get? b = some o := PySem.W.of_hideAll (trk h H) e
  refine ⟨e', ?_⟩
  cases q : H b with
  | none => rfl
  | some x =>
    have hm : b ∈ trk h H := List.mem_filter.mpr ⟨List.mem_range.mpr (Heap.lt_size e'), by simp [q]⟩
    have z : (hidT h H).get? b = none := PySem.W.hideAll_none (trk h H) hm
    rw [z] at e; cases e

/-! ### OpenK's ledger, filled with every new object but one -/
def allNews (g h : Heap) (L : Addr) : List (Addr × Obj) := (List.range h.objs.size).filterMap fun a => if a = L ∨ (g.get? a).isSome = true then none else (h.get? a).map fun o => (a, o)
def rest (g h : Heap) (L d : Addr) : List (Addr × Obj) := (allNews g h L).filter fun p => decide (p.1 ≠ d)
end L2

namespace L2
open PySem PySem.Spec PyProof.Rows

/-- the module's facts, over the base: the heap at the law's entry without what is tracked there -/
structure Mod (K : PySem.W.Frag) (mg : Str → Option Value) (base : Heap) : Prop where
  kin : K.In base
  glob : base.Ns mainGlobals mg
  blt : ∃ mb, base.Ns builtinsNs mb ∧ ∀ x : Str, x ≠ "__name__" → mb x = bootBuiltins x
  nolimit : base.NoLimit

/-- the context: a def's body (or a comprehension's block) running. base: fixed through the whole law; s₀, H₀: the entry; outer: the frames whose slots others may change (a def's callers); stack: all frames that run;
   ex: iterators that were made ahead of the entry and are walked here (a comprehension's); fn: the names whose cells were made at the entry (a def: all; a comprehension's block: its own); calm: not within an except suite; pn: pins that every state bears; xe: what is wanted of an exception that leaves the code -/
structure Cx where
  prog : Program
  w : World
  K : PySem.W.Frag
  mg : Str → Option Value
  base : Heap
  A : Around
  N : List Str
  s₀ : Shared
  H₀ : Hp
  env : Env
  outer : List Env
  stack : List Env
  ex : List Addr
  fn : Str → Bool
  calm : Bool
  pn : List (Addr × Obj)
  xe : Value → Shared → Prop
/-- the callers' frames -/
def frs (l : List Env) : List Addr := l.filterMap (·.frame)
abbrev Cx.fs (X : Cx) : List Addr := frs X.outer

def Vis (sc : Scope) (x : Str) : Prop := sc.names.lookup x = some .local ∨ sc.names.lookup x = some .cell ∨ sc.names.lookup x = some .free
def Loc (sc : Scope) (x : Str) : Prop := sc.names.lookup x = some .local ∨ sc.names.lookup x = some .cell
def Look (env : Env) (h : Heap) (m : Str → Option Value) (x : Str) (u : Value) : Prop :=
  (env.kindOf x = some .local ∧ m x = some u) ∨ ((env.kindOf x = some .cell ∨ env.kindOf x = some .free) ∧ ∃ c, env.cells.lookup x = some c ∧ h.IsCell c (some u))

structure Cx.Ok (X : Cx) : Prop where
  mod : Mod X.K X.mg X.base
  kind : X.env.scope.kind = .function
  glob : X.env.globals = mainGlobals
  blt : X.env.builtins = builtinsNs
  above : X.s₀.heap.objs.size ≤ X.env.locals
  inj : ∀ x y c, X.env.cells.lookup x = some c → X.env.cells.lookup y = some c → x = y
  has : ∀ x, (X.env.kindOf x = some .cell ∨ X.env.kindOf x = some .free) → ∃ c, X.env.cells.lookup x = some c
  cab : ∀ x c, X.fn x = true → X.env.cells.lookup x = some c → X.s₀.heap.objs.size ≤ c
  hd : X.calm = true → X.A.handled = none
  frames : X.A.frames = some X.stack
  stk : X.stack = X.outer ∨ (X.stack = X.env :: X.outer ∧ X.env.frame = some X.env.locals)
  exf : ∀ b ∈ X.ex, b ≠ X.env.locals ∧ ∀ x c, X.env.cells.lookup x = some c → c ≠ b
  bs : ∀ b o, X.base.get? b = some o → X.s₀.heap.get? b = some o ∧ X.H₀ b = none
  bsz : X.base.objs.size ≤ X.s₀.heap.objs.size
  noex : ∀ b o, X.base.get? b = some o → b ∉ X.ex
  exfs : ∀ b ∈ X.ex, b ∉ X.fs
  funs : X.s₀.heap.FunFrames X.base X.outer
  frf : ∀ b ∈ X.fs, X.H₀ b = none

structure Inv (X : Cx) (pins : List (Addr × Obj)) (σ : List (Option V)) (H : Hp) (s : Shared) : Prop where
  ok : X.Ok
  os : s.os = X.s₀.os
  bare : AllBare s.gens
  base : Un X.fs X.ex X.H₀ H X.s₀.heap s.heap
  loc : ∃ m, s.heap.Ns X.env.locals m ∧ ∀ (i : Nat) (x : Str) (v : V), X.N[i]? = some x → σ[i]? = some (some v) → Vis X.env.scope x → ∃ u, RelV v u ∧ Look X.env s.heap m x u
  cell : ∀ x c, X.env.cells.lookup x = some c → ∃ v, s.heap.IsCell c v
  free : H X.env.locals = none
  freeC : ∀ x c, X.env.cells.lookup x = some c → H c = none
  pin : ∀ p ∈ X.pn ++ pins, s.heap.get? p.1 = some p.2 ∧ H p.1 = none ∧ p.1 ≠ X.env.locals ∧ p.1 ∉ X.fs ∧ ∀ v, p.2.data ≠ .cell v
  hok : HOk X.prog X.w H s.heap
  len : σ.length = X.N.length

section
variable {X : Cx} {pins : List (Addr × Obj)} {σ : List (Option V)} {H H' : Hp} {s : Shared} {h' : Heap}

theorem Cx.Ok.nofr (ok : X.Ok) {b : Addr} {o : Obj} (e : X.base.get? b = some o) : b ∉ X.fs := fun hb => by
  have := (ok.funs.mem hb).1
  rw [e] at this; cases this
theorem Inv.bs (I : Inv X pins σ H s) : ∀ b o, X.base.get? b = some o → s.heap.get? b = some o ∧ H b = none := fun b o e =>
  ⟨I.base.keep b o (I.ok.bs b o e).1 (I.ok.bs b o e).2 (I.ok.nofr e) (I.ok.noex b o e), I.base.free b o (I.ok.bs b o e).1 (I.ok.bs b o e).2 (I.ok.noex b o e)⟩
theorem Inv.bk (I : Inv X pins σ H s) : ∀ b o, X.base.get? b = some o → s.heap.get? b = some o := fun b o e => (I.bs b o e).1
theorem Inv.mod (I : Inv X pins σ H s) : Mod X.K X.mg X.base := I.ok.mod
theorem Inv.kIn (I : Inv X pins σ H s) : X.K.In s.heap := I.ok.mod.kin.keeps I.bk
theorem Inv.nolimit (I : Inv X pins σ H s) : s.heap.NoLimit := I.ok.mod.nolimit.keeps I.bk
/-- the frame over the base: for OpenK's rules (K.In X.base is I.mod.kin) -/
theorem Inv.fr (I : Inv X pins σ H s) : ∃ m, Fr X.base X.env.locals s.heap m :=
  let ⟨m, hn, _⟩ := I.loc
  ⟨m, hn, I.bk, Nat.le_trans I.ok.bsz I.ok.above⟩
theorem Inv.lt (I : Inv X pins σ H s) : X.env.locals < s.heap.objs.size := let ⟨_, hn, _⟩ := I.loc; hn.lt
theorem Inv.sz (I : Inv X pins σ H s) : X.s₀.heap.objs.size ≤ s.heap.objs.size := Nat.le_trans I.ok.above (Nat.le_of_lt I.lt)
theorem Inv.nofs (I : Inv X pins σ H s) {a : Addr} (h : s.heap.objs.size ≤ a) : a ∉ X.fs := fun hb => by
  obtain ⟨_, o, ho, _⟩ := I.ok.funs.mem hb
  exact absurd (Nat.lt_of_lt_of_le (Heap.lt_size ho) (Nat.le_trans I.sz h)) (Nat.lt_irrefl _)
theorem Inv.cne (I : Inv X pins σ H s) : ∀ x c, X.env.cells.lookup x = some c → c ≠ X.env.locals := fun x c e z => by
  obtain ⟨v, o, ho, hd⟩ := I.cell x c e
  obtain ⟨m, ⟨o', es, ep, ho', hd', _⟩, _⟩ := I.loc
  rw [z, ho'] at ho; cases ho; rw [hd'] at hd; cases hd
theorem Inv.funs (I : Inv X pins σ H s) : s.heap.FunFrames X.base X.outer := by
  have all : ∀ (l : List Env), (∀ b ∈ frs l, b ∈ X.fs) → X.s₀.heap.FunFrames X.base l → s.heap.FunFrames X.base l := by
    intro l
    induction l with
    | nil => intro _ _; trivial
    | cons env r ih =>
      intro hs hl
      obtain ⟨hk, ⟨L, o, hf, hn, ho, hd⟩, hr⟩ := hl
      have hL : L ∈ X.fs := hs L (by unfold frs; rw [List.filterMap_cons, hf]; exact List.mem_cons_self)
      obtain ⟨sl, e⟩ := I.base.slot L o ho (I.ok.frf L hL) hL fun z => I.ok.exfs L z hL
      exact ⟨hk, ⟨L, _, hf, hn, e, hd⟩, ih (fun b hb => hs b (by unfold frs; rw [List.filterMap_cons, hf]; exact List.mem_cons_of_mem _ hb)) hr⟩
  exact all X.outer (fun _ hb => hb) I.ok.funs

/-- the frames that run, for a call -/
theorem Inv.stack (I : Inv X pins σ H s) : s.heap.FunFrames X.base X.stack := by
  rcases I.ok.stk with e | ⟨e, hf⟩
  · rw [e]; exact I.funs
  · rw [e]
    obtain ⟨m, hn, _⟩ := I.loc
    refine .cons (by rw [I.ok.kind]; decide) hf hn ?_ I.funs
    exact Heap.get?_none_of_le (Nat.le_trans I.ok.bsz I.ok.above)
theorem Inv.stkSub (I : Inv X pins σ H s) : ∀ b ∈ frs X.stack, b ∈ X.env.locals :: X.fs := fun b hb => by
  rcases I.ok.stk with e | ⟨e, hf⟩
  · rw [e] at hb; exact List.mem_cons_of_mem _ hb
  · rw [e] at hb
    unfold frs at hb
    rw [List.filterMap_cons, hf] at hb
    exact hb
theorem Inv.stkFree (I : Inv X pins σ H s) : ∀ b ∈ frs X.stack, H b = none := fun b hb => by
  rcases List.mem_cons.mp (I.stkSub b hb) with e | hb
  · rw [e]; exact I.free
  · obtain ⟨_, o, ho, _⟩ := I.ok.funs.mem hb
    exact I.base.free b o ho (I.ok.frf b hb) fun z => I.ok.exfs b z hb

/-- THE STEP: the untracked objects but the frame and the records at ch are kept (the callers' frames up to slots), the frame's map is kept, the new abstract heap is held -/
theorem Inv.step {g' : Array GenState} {t' : Nat} {d' : Drawn} {ch : List Addr} (I : Inv X pins σ H s)
    (hch : ∀ b ∈ ch, (b ∈ X.ex ∨ X.s₀.heap.objs.size ≤ b) ∧ b ≠ X.env.locals ∧ (∀ x c, X.env.cells.lookup x = some c → c ≠ b) ∧ ∀ p ∈ X.pn ++ pins, p.1 ≠ b)
    (keep : ∀ b o, b ≠ X.env.locals → b ∉ X.fs → b ∉ ch → s.heap.get? b = some o → H b = none → h'.get? b = some o)
    (slot : ∀ b o, b ≠ X.env.locals → b ∈ X.fs → b ∉ ch → s.heap.get? b = some o → H b = none → ∃ sl, h'.get? b = some { o with slots := sl }) (free : ∀ b o, b ∉ ch → s.heap.get? b = some o → H b = none → H' b = none)
    (there : ∀ b o, b ∉ ch → s.heap.get? b = some o → ∃ o', h'.get? b = some o')
    (tups : ∀ b xs, H b = some (.tup xs) → H' b = some (.tup xs)) (frzs : ∀ b o u, H b = some (.frz o u) → H' b = some (.frz o u)) (tbls : ∀ b ps, H b = some (.tbl ps) → ∃ more, H' b = some (.tbl (ps ++ more)))
    (ns : ∀ m, s.heap.Ns X.env.locals m → h'.Ns X.env.locals m) (hok : HOk X.prog X.w H' h') (hg : AllBare g') :
    Inv X pins σ H' { s with heap := h', gens := g', drawn := d', toks := t' } := by
  have neL : ∀ b o, X.s₀.heap.get? b = some o → b ≠ X.env.locals := fun b o e => Nat.ne_of_lt (Nat.lt_of_lt_of_le (Heap.lt_size e) I.ok.above)
  have neC : ∀ b o, X.s₀.heap.get? b = some o → b ∉ X.ex → b ∉ ch := fun b o e hx hb => by
    rcases (hch b hb).1 with z | z
    · exact hx z
    · exact absurd (Nat.lt_of_lt_of_le (Heap.lt_size e) z) (Nat.lt_irrefl _)
  have cellK : ∀ x c, X.env.cells.lookup x = some c → ∀ v, s.heap.IsCell c v → h'.IsCell c v := fun x c e v ⟨o, ho, hd⟩ => by
    have nch : c ∉ ch := fun z => (hch c z).2.2.1 x c e rfl
    by_cases hc : c ∈ X.fs
    · obtain ⟨sl, q⟩ := slot c o (I.cne x c e) hc nch ho (I.freeC x c e)
      exact ⟨_, q, hd⟩
    · exact ⟨o, keep c o (I.cne x c e) hc nch ho (I.freeC x c e), hd⟩
  refine ⟨I.ok, I.os, hg, ⟨fun b o e n hb hx => ?_, fun b o e n hb hx => ?_, fun b o e n hx => ?_, fun b o e hx => ?_, fun b xs e => tups b xs (I.base.tups b xs e), fun b o xs e => frzs b o xs (I.base.frzs b o xs e), fun b ps e => ?_⟩, ?_, fun x c e => ?_, ?_, fun x c e => ?_, fun p hp => ?_, hok, I.len⟩
  · exact keep b o (neL b o e) hb (neC b o e hx) (I.base.keep b o e n hb hx) (I.base.free b o e n hx)
  · obtain ⟨sl, e1⟩ := I.base.slot b o e n hb hx
    obtain ⟨sl', e2⟩ := slot b _ (neL b o e) hb (neC b o e hx) e1 (I.base.free b o e n hx)
    exact ⟨sl', e2⟩
  · obtain ⟨o', e1⟩ := I.base.there b o e hx
    exact free b o' (neC b o e hx) e1 (I.base.free b o e n hx)
  · obtain ⟨o', e1⟩ := I.base.there b o e hx
    exact there b o' (neC b o e hx) e1
  · obtain ⟨m1, e1⟩ := I.base.tbls b ps e
    obtain ⟨m2, e2⟩ := tbls b _ e1
    exact ⟨m1 ++ m2, by rw [e2, Array.append_assoc]⟩
  · obtain ⟨m, hn, hl⟩ := I.loc
    refine ⟨m, ns m hn, fun i x v e1 e2 e3 => ?_⟩
    obtain ⟨u, r, l⟩ := hl i x v e1 e2 e3
    refine ⟨u, r, ?_⟩
    rcases l with l | ⟨k, c, e, z⟩
    · exact .inl l
    · exact .inr ⟨k, c, e, cellK x c e _ z⟩
  · obtain ⟨v, z⟩ := I.cell x c e
    exact ⟨v, cellK x c e v z⟩
  · obtain ⟨m, ⟨o, _, _, ho, _⟩, _⟩ := I.loc
    exact free _ o (fun z => (hch _ z).2.1 rfl) ho I.free
  · obtain ⟨v, o, ho, hd⟩ := I.cell x c e
    exact free c o (fun z => (hch c z).2.2.1 x c e rfl) ho (I.freeC x c e)
  · obtain ⟨e, n, ne, nf, d⟩ := I.pin p hp
    have nch : p.1 ∉ ch := fun z => (hch p.1 z).2.2.2 p hp rfl
    exact ⟨keep p.1 p.2 ne nf nch e n, free p.1 p.2 nch e n, ne, nf, d⟩
/-- .. where the frame's own object is kept too -/
theorem Inv.un {t' : Nat} (I : Inv X pins σ H s) (u : Un X.fs [] H H' s.heap h') (hok : HOk X.prog X.w H' h') : Inv X pins σ H' { s with heap := h', toks := t' } := by
  obtain ⟨m, ⟨o, es, ep, ho, r⟩, _⟩ := id I.loc
  obtain ⟨sl, hL⟩ := u.any ho I.free (by simp)
  exact I.step (g' := s.gens) (d' := s.drawn) (ch := []) (fun _ z => nomatch z) (fun b o _ hb _ e n => u.keep b o e n hb (by simp)) (fun b o _ hb _ e n => u.slot b o e n hb (by simp)) (fun b o _ e n => u.free b o e n (by simp)) (fun b o _ e => u.there b o e (by simp)) u.tups u.frzs u.tbls (fun m' hm => by
    obtain ⟨o', es', ep', ho', r'⟩ := hm
    rw [ho] at ho'; cases ho'
    exact ⟨_, es', ep', hL, r'⟩) hok I.bare
/-- behind a call (or a comprehension's block): the slots of this frame may have changed too, the records at ch may have turned -/
theorem Inv.call {g' : Array GenState} {t' : Nat} {d' : Drawn} {ch : List Addr} (I : Inv X pins σ H s) (u : Un (frs X.stack) ch H H' s.heap h') (hok : HOk X.prog X.w H' h') (hg : AllBare g')
    (hch : ∀ b ∈ ch, (b ∈ X.ex ∨ X.s₀.heap.objs.size ≤ b) ∧ b ≠ X.env.locals ∧ (∀ x c, X.env.cells.lookup x = some c → c ≠ b) ∧ ∀ p ∈ X.pn ++ pins, p.1 ≠ b) :
    Inv X pins σ H' { s with heap := h', gens := g', drawn := d', toks := t' } := by
  obtain ⟨m, ⟨o, es, ep, ho, r⟩, _⟩ := id I.loc
  obtain ⟨sl, hL⟩ := u.any ho I.free fun z => (hch _ z).2.1 rfl
  exact I.step (ch := ch) hch (fun b o hL hb hc e n => u.keep b o e n (fun z => (List.mem_cons.mp (I.stkSub b z)).elim hL hb) hc) (fun b o _ _ hc e n => u.any e n hc) (fun b o hc e n => u.free b o e n hc) (fun b o hc e => u.there b o e hc) u.tups u.frzs u.tbls (fun m' hm => by
    obtain ⟨o', es', ep', ho', r'⟩ := hm
    rw [ho] at ho'; cases ho'
    exact ⟨_, es', ep', hL, r'⟩) hok hg
/-- an untracked record of ours (an iterator) has turned -/
theorem Inv.turned {t' : Nat} {it : Addr} (I : Inv X pins σ H s) (k : ∀ b o, b ≠ it → s.heap.get? b = some o → h'.get? b = some o) (hn : H it = none) (hL : it ≠ X.env.locals)
    (h1 : it ∈ X.ex ∨ X.s₀.heap.objs.size ≤ it) (h2 : ∀ x c, X.env.cells.lookup x = some c → c ≠ it) (h3 : ∀ p ∈ X.pn ++ pins, p.1 ≠ it) : Inv X pins σ H { s with heap := h', toks := t' } := by
  have nit : ∀ b u, H b = some u → b ≠ it := fun b u e z => by rw [z, hn] at e; cases e
  refine I.step (g' := s.gens) (d' := s.drawn) (ch := [it]) (fun b hb => ?_) (fun b o _ _ hc e _ => k b o (fun z => hc (by simp [z])) e) (fun b o _ _ hc e _ => ⟨o.slots, k b o (fun z => hc (by simp [z])) e⟩) (fun _ _ _ _ n => n)
    (fun b o hc e => ⟨o, k b o (fun z => hc (by simp [z])) e⟩) (fun _ _ e => e) (fun _ _ _ e => e) (fun b ps e => ⟨#[], by rw [e]; simp⟩) (fun m hm => ?_) (fun b u e => ?_) I.bare
  · have e : b = it := by simpa using hb
    subst e
    exact ⟨h1, hL, h2, h3⟩
  · obtain ⟨o, es, ep, ho, r⟩ := hm
    exact ⟨o, es, ep, k _ o (Ne.symm hL) ho, r⟩
  · refine (I.hok b u e).stay (fun c v hc q => k c v ?_ q) (fun _ q => q) fun _ _ q => q
    rcases hc with z | z
    · rw [z]; exact nit b u e
    · exact nit c _ z
theorem Inv.tok (I : Inv X pins σ H s) (t : Nat) : Inv X pins σ H { s with toks := t } := I.un (h' := s.heap) (t' := t) Un.refl I.hok
/-- all objects kept -/
theorem Inv.kept {t' : Nat} (I : Inv X pins σ H s) (k : ∀ b u, s.heap.get? b = some u → h'.get? b = some u) : Inv X pins σ H { s with heap := h', toks := t' } := I.un (Un.kept k) (I.hok.kept k)
/-- a new object laid and tracked -/
theorem Inv.laid {a : Addr} {o : HO} {t' : Nat} (I : Inv X pins σ H s) (k : ∀ b u, s.heap.get? b = some u → h'.get? b = some u) (hp : s.heap.objs.size ≤ a) (new : ObjOk X.prog X.w (upd H a o) h' a o) :
    Inv X pins σ (upd H a o) { s with heap := h', toks := t' } := I.un (Un.laid k hp (I.hok.fresh hp)) (I.hok.laid k hp new)
/-- an object written -/
theorem Inv.write {x e : Addr} {o : HO} {t' : Nat} (I : Inv X pins σ H s) (mu : Mut (H x)) (he : e = x ∨ H e = some (.own x)) (k : ∀ b u, b ≠ e → s.heap.get? b = some u → h'.get? b = some u) (heo : ∃ u, h'.get? e = some u)
    (new : ObjOk X.prog X.w (upd H x o) h' x o) : Inv X pins σ (upd H x o) { s with heap := h', toks := t' } := I.un (Un.write mu he k heo) (I.hok.write mu he k heo new)
theorem Inv.pins_of {pins' : List (Addr × Obj)} (I : Inv X pins σ H s) (h : ∀ p ∈ pins', s.heap.get? p.1 = some p.2 ∧ H p.1 = none ∧ p.1 ≠ X.env.locals ∧ p.1 ∉ X.fs ∧ ∀ v, p.2.data ≠ .cell v) : Inv X pins' σ H s :=
  ⟨I.ok, I.os, I.bare, I.base, I.loc, I.cell, I.free, I.freeC, fun p hp => (List.mem_append.mp hp).elim (fun z => I.pin p (List.mem_append_left _ z)) (h p), I.hok, I.len⟩

theorem nodup_ix {N : List Str} (hN : N.Nodup) {i j : Nat} {x : Str} (a : N[i]? = some x) (b : N[j]? = some x) : i = j := by
  obtain ⟨h1, e1⟩ := List.getElem?_eq_some_iff.mp a
  obtain ⟨h2, e2⟩ := List.getElem?_eq_some_iff.mp b
  exact (List.getElem_inj hN).mp (e1.trans e2.symm)

/-- a name is stored; what changed -/
theorem store_ok2 {M : Model} {A : Around} {E : Value → Shared → Prop} {i : Nat} {x : Str} {v : V} {u : Value} {Q : Unit → Shared → Prop} (I : Inv X pins σ H s) (hN : X.N.Nodup) (hi : X.N[i]? = some x) (hx : Loc X.env.scope x) (r : RelV v u)
    (h : ∀ s', Inv X pins (σ.set i (some v)) H s' → (∃ a, Heap.SameBut a s.heap s'.heap ∧ (a = X.env.locals ∨ X.env.cells.lookup x = some a)) → Q () s') (hf : X.fn x = true ∨ X.env.scope.names.lookup x = some .local := by first | exact .inl rfl | exact .inr rfl | assumption) : wpAny M A (storeName X.env x u) Q E s := by
  obtain ⟨m, hn, hl⟩ := id I.loc
  have hcls : (X.env.scope.kind == .class || (X.env.scope.kind == .module && X.env.locals != X.env.globals)) = false := by rw [I.ok.kind]; rfl
  have hiσ : i < σ.length := by rw [I.len]; exact (List.getElem?_eq_some_iff.mp hi).1
  have cne := I.cne
  have tracked : ∀ {a : Addr} {h' : Heap}, (∃ o, s.heap.get? a = some o ∧ H a = none) → Heap.SameBut a s.heap h' → HOk X.prog X.w H h' := fun {a h'} ha hs b ob e => by
    obtain ⟨_, _, hfree⟩ := ha
    refine (I.hok b ob e).stay (fun c w' hc q => (hs.2 c ?_).trans q) (fun _ q => q) fun _ _ q => q
    rintro rfl
    rcases hc with rfl | hc
    · rw [hfree] at e; cases e
    · rw [hfree] at hc; cases hc
  rcases hx with hk | hk
  · refine wpAny_storeName_local hk hn (fun h' hn' hs => ?_) hcls
    obtain ⟨oL, _, _, hoL, _⟩ := id hn
    refine h _ ⟨I.ok, I.os, I.bare, ⟨fun b o e n hb hx => ?_, fun b o e n hb hx => ?_, I.base.free, fun b o e hx => ?_, I.base.tups, I.base.frzs, I.base.tbls⟩, ⟨_, hn', fun j y v' e1 e2 e3 => ?_⟩, fun y c e => ?_, I.free, I.freeC, fun p hp => ?_, tracked ⟨oL, hoL, I.free⟩ hs, by simpa using I.len⟩ ⟨_, hs, .inl rfl⟩
    · exact (hs.2 b (Nat.ne_of_lt (Nat.lt_of_lt_of_le (Heap.lt_size e) I.ok.above))).trans (I.base.keep b o e n hb hx)
    · obtain ⟨sl, e1⟩ := I.base.slot b o e n hb hx
      exact ⟨sl, (hs.2 b (Nat.ne_of_lt (Nat.lt_of_lt_of_le (Heap.lt_size e) I.ok.above))).trans e1⟩
    · obtain ⟨o', e1⟩ := I.base.there b o e hx
      exact ⟨o', (hs.2 b (Nat.ne_of_lt (Nat.lt_of_lt_of_le (Heap.lt_size e) I.ok.above))).trans e1⟩
    · by_cases hj : j = i
      · subst hj
        rw [hi] at e1; cases e1
        rw [List.getElem?_set_self hiσ] at e2
        cases e2
        exact ⟨u, r, .inl ⟨hk, by simp⟩⟩
      · rw [List.getElem?_set_ne (Ne.symm hj)] at e2
        obtain ⟨u', r', q⟩ := hl j y v' e1 e2 e3
        refine ⟨u', r', ?_⟩
        rcases q with ⟨k, e⟩ | ⟨k, c, e, z⟩
        · refine .inl ⟨k, ?_⟩
          have : y ≠ x := fun e => hj (nodup_ix hN e1 (e ▸ hi))
          simp [this, e]
        · exact .inr ⟨k, c, e, z.sameBut hs (cne y c e)⟩
    · obtain ⟨w', z⟩ := I.cell y c e
      exact ⟨w', z.sameBut hs (cne y c e)⟩
    · obtain ⟨e, n, ne, nf, d⟩ := I.pin p hp
      exact ⟨(hs.2 p.1 ne).trans e, n, ne, nf, d⟩
  · have hfn : X.fn x = true := by
      rcases hf with z | z
      · exact z
      · rw [z] at hk; cases hk
    obtain ⟨c, hc⟩ := I.ok.has x (.inl hk)
    obtain ⟨w', z⟩ := I.cell x c hc
    refine wpAny_storeName_cell I.ok.kind hk hc z (fun h' hc' hs => ?_)
    obtain ⟨oc, hoc, hocd⟩ := id z
    refine h { s with heap := h' } ⟨I.ok, I.os, I.bare, ⟨fun b o e n hb hx => ?_, fun b o e n hb hx => ?_, I.base.free, fun b o e hx => ?_, I.base.tups, I.base.frzs, I.base.tbls⟩, ⟨m, hn.sameBut hs (Ne.symm (cne x c hc)), fun j y v' e1 e2 e3 => ?_⟩, fun y c' e => ?_, I.free, I.freeC, fun p hp => ?_, tracked ⟨oc, hoc, I.freeC x c hc⟩ hs, by simpa using I.len⟩ ⟨c, hs, .inr hc⟩
    · exact (hs.2 b (Nat.ne_of_lt (Nat.lt_of_lt_of_le (Heap.lt_size e) (I.ok.cab x c hfn hc)))).trans (I.base.keep b o e n hb hx)
    · obtain ⟨sl, e1⟩ := I.base.slot b o e n hb hx
      exact ⟨sl, (hs.2 b (Nat.ne_of_lt (Nat.lt_of_lt_of_le (Heap.lt_size e) (I.ok.cab x c hfn hc)))).trans e1⟩
    · obtain ⟨o', e1⟩ := I.base.there b o e hx
      exact ⟨o', (hs.2 b (Nat.ne_of_lt (Nat.lt_of_lt_of_le (Heap.lt_size e) (I.ok.cab x c hfn hc)))).trans e1⟩
    · by_cases hj : j = i
      · subst hj
        rw [hi] at e1; cases e1
        rw [List.getElem?_set_self hiσ] at e2
        cases e2
        exact ⟨u, r, .inr ⟨.inl hk, c, hc, hc'⟩⟩
      · rw [List.getElem?_set_ne (Ne.symm hj)] at e2
        obtain ⟨u', r', q⟩ := hl j y v' e1 e2 e3
        refine ⟨u', r', ?_⟩
        rcases q with q | ⟨k, c', e, z'⟩
        · exact .inl q
        · refine .inr ⟨k, c', e, z'.sameBut hs ?_⟩
          rintro rfl
          exact hj (nodup_ix hN e1 (I.ok.inj _ _ _ e hc ▸ hi))
    · by_cases hcc : c' = c
      · subst hcc; exact ⟨_, hc'⟩
      · obtain ⟨w2, z2⟩ := I.cell y c' e
        exact ⟨w2, z2.sameBut hs hcc⟩
    · obtain ⟨e, n, ne, nf, d⟩ := I.pin p hp
      refine ⟨(hs.2 p.1 ?_).trans e, n, ne, nf, d⟩
      intro q
      rw [q, hoc] at e
      have q' : oc = p.2 := Option.some.inj e
      exact d w' (by rw [← q']; exact hocd)
theorem store_ok {M : Model} {A : Around} {E : Value → Shared → Prop} {i : Nat} {x : Str} {v : V} {u : Value} {Q : Unit → Shared → Prop} (I : Inv X pins σ H s) (hN : X.N.Nodup) (hi : X.N[i]? = some x) (hx : Loc X.env.scope x) (r : RelV v u)
    (h : ∀ s', Inv X pins (σ.set i (some v)) H s' → Q () s') (hf : X.fn x = true ∨ X.env.scope.names.lookup x = some .local := by first | exact .inl rfl | exact .inr rfl | assumption) : wpAny M A (storeName X.env x u) Q E s :=
  store_ok2 I hN hi hx r (fun s' I' _ => h s' I') hf
/-- behind a call or a block, the state as it is -/
theorem Inv.call' {s' : Shared} {ch : List Addr} (I : Inv X pins σ H s) (ho : s'.os = s.os) (u : Un (frs X.stack) ch H H' s.heap s'.heap) (hok : HOk X.prog X.w H' s'.heap) (hg : AllBare s'.gens)
    (hch : ∀ b ∈ ch, (b ∈ X.ex ∨ X.s₀.heap.objs.size ≤ b) ∧ b ≠ X.env.locals ∧ (∀ x c, X.env.cells.lookup x = some c → c ≠ b) ∧ ∀ p ∈ X.pn ++ pins, p.1 ≠ b) : Inv X pins σ H' s' := by
  obtain ⟨h', g', d', t', o'⟩ := s'
  have e : o' = s.os := ho
  subst e
  exact I.call (g' := g') (t' := t') (d' := d') u hok hg hch
end

/-! ### the judgements -/
/-- an exception: its class, its own dict's address (where it has one), the abstract heap behind it -/
abbrev XK := Value → Option Addr → Hp → Prop
abbrev St := List (Option V)
abbrev VK := V → Hp → Prop
/-- an expression's reading; a test's; an argument list's -/
abbrev TE := St → Hp → VK → Prop
abbrev TT := St → Hp → (Bool → Hp → Prop) → Prop
abbrev TA := St → Hp → (List V → Hp → Prop) → Prop
/-- what is wanted behind a statement -/
structure Ends where
  nx : St → Hp → Prop
  rt : VK
  bk : St → Hp → Prop := fun _ _ => False
  ct : St → Hp → Prop := fun _ _ => False
abbrev TS := Ends → St → Hp → Prop

def EP (X : Cx) (pins : List (Addr × Obj)) (σ : St) (Q : VK) (u : Value) (s' : Shared) : Prop := ∃ v H', Inv X pins σ H' s' ∧ RelV v u ∧ Q v H'
def TP (X : Cx) (pins : List (Addr × Obj)) (σ : St) (Q : Bool → Hp → Prop) (b : Bool) (s' : Shared) : Prop := ∃ H', Inv X pins σ H' s' ∧ Q b H'
def AP (X : Cx) (pins : List (Addr × Obj)) (σ : St) (Q : List V → Hp → Prop) (us : List Value) (s' : Shared) : Prop := ∃ vs H', Inv X pins σ H' s' ∧ Vals vs us ∧ Q vs H'
def SP (X : Cx) (pins : List (Addr × Obj)) (D : Ends) (f : Flow) (s' : Shared) : Prop :=
  match f with
  | .next => ∃ σ' H', Inv X pins σ' H' s' ∧ D.nx σ' H'
  | .brk => ∃ σ' H', Inv X pins σ' H' s' ∧ D.bk σ' H'
  | .cont => ∃ σ' H', Inv X pins σ' H' s' ∧ D.ct σ' H'
  | .ret u => ∃ v σ' H', Inv X pins σ' H' s' ∧ RelV v u ∧ D.rt v H'

def PE (X : Cx) (e : Expr) (t : TE) : Prop :=
  ∀ (pins : List (Addr × Obj)) (s : Shared) (σ : St) (H : Hp) (Q : VK), Inv X pins σ H s → t σ H Q → wpAny (model X.prog X.w) X.A (eval e X.env) (EP X pins σ Q) X.xe s
def PT (X : Cx) (e : Expr) (t : TT) : Prop :=
  ∀ (pins : List (Addr × Obj)) (s : Shared) (σ : St) (H : Hp) (Q : Bool → Hp → Prop), Inv X pins σ H s → t σ H Q → wpAny (model X.prog X.w) X.A (isTrue e X.env (eval e X.env)) (TP X pins σ Q) X.xe s
/-- a test whatever its 'whole' is (and, or) -/
def PW (X : Cx) (e : Expr) (t : TT) : Prop :=
  ∀ (whole : Sem Value) (pins : List (Addr × Obj)) (s : Shared) (σ : St) (H : Hp) (Q : Bool → Hp → Prop), Inv X pins σ H s → t σ H Q → wpAny (model X.prog X.w) X.A (isTrue e X.env whole) (TP X pins σ Q) X.xe s
theorem PW.pt {X : Cx} {e : Expr} {t : TT} (h : PW X e t) : PT X e t := h _
/-- an argument list (no star), from the left -/
def PA (X : Cx) (es : List Expr) (t : TA) : Prop :=
  ∀ (pos : Pos) (pins : List (Addr × Obj)) (s : Shared) (σ : St) (H : Hp) (Q : List V → Hp → Prop), Inv X pins σ H s → t σ H Q → wpAny (model X.prog X.w) X.A (spliced (backTo pos (starEach es X.env))) (AP X pins σ Q) X.xe s
def PS (X : Cx) (st : Stmt) (t : TS) : Prop :=
  ∀ (pins : List (Addr × Obj)) (s : Shared) (σ : St) (H : Hp) (D : Ends), Inv X pins σ H s → t D σ H → wpAny (model X.prog X.w) X.A (exec st X.env) (SP X pins D) X.xe s
def PSs (X : Cx) (st : List Stmt) (t : TS) : Prop :=
  ∀ (pins : List (Addr × Obj)) (s : Shared) (σ : St) (H : Hp) (D : Ends), Inv X pins σ H s → t D σ H → wpAny (model X.prog X.w) X.A (execs st X.env) (SP X pins D) X.xe s
/-- weaken the end -/
theorem thn {α : Type} {t : Sem α} {Q Q' : α → Shared → Prop} {M : Model} {A : Around} {E : Value → Shared → Prop} {s : Shared} (h : wpAny M A t Q E s) (hQ : ∀ a s, Q a s → Q' a s) : wpAny M A t Q' E s := wpAny_mono h hQ fun _ _ x => x
end L2

namespace L2
open PySem PySem.Spec PyProof.Rows
section
variable {X : Cx}

/-! ### names and constants -/
def tVar (i : Nat) : TE := fun σ H Q => ∃ v, σ[i]? = some (some v) ∧ Q v H
def tC (v : V) : TE := fun _ H Q => Q v H
theorem pe_var {i : Nat} {x : Str} {pos : Pos} (hN : X.N[i]? = some x) (hv : Vis X.env.scope x) (hd : (x == ("__debug__" : Str)) = false := by decide) (hcd : (x == ("__classdict__" : Str)) = false := by decide) : PE X (.Name x pos) (tVar i) := by
  intro pins s σ H Q I h
  obtain ⟨v, e, h⟩ := h
  obtain ⟨m, hn, hl⟩ := I.loc
  obtain ⟨u, r, l⟩ := hl i x v hN e hv
  have fin : EP X pins σ Q u s := ⟨v, H, I, r, h⟩
  rcases l with ⟨hk, hm⟩ | ⟨hk, c, hc, hcell⟩
  · exact wpAny_Name (wpAny_loadName_local I.ok.kind hk hn hm fin) hd
  · rcases hk with hk | hk
    · exact wpAny_Name (wpAny_loadName_cell I.ok.kind hk hc hcell fin) hd
    · exact wpAny_Name (wpAny_loadName_free I.ok.kind hk hc hcell fin hcd) hd
theorem pe_int {i j pos} : PE X (.Constant (.int i) j pos) (tC (.int i)) := fun _ _ _ H _ I h => wpAny_Constant_int ⟨.int i, H, I.tok _, ⟨_, rfl⟩, h⟩
theorem pe_bl {b j pos} : PE X (.Constant (.bool b) j pos) (tC (.bl b)) := fun _ _ _ H _ I h => Constant_bool ⟨.bl b, H, I, rfl, h⟩
/-- a global name of the def -/
def Gl (X : Cx) (x : Str) : Prop := X.env.kindOf x = some .globalImplicit
theorem ld_glob {E : Value → Shared → Prop} {pins : List (Addr × Obj)} {s : Shared} {σ : St} {H : Hp} {x : Str} {u : Value} {pos : Pos} {Q : Value → Shared → Prop} (I : Inv X pins σ H s) (hg : Gl X x) (hm : X.mg x = some u) (h : Q u s)
    (hd : (x == ("__debug__" : Str)) = false := by decide) : wpAny (model X.prog X.w) X.A (eval (.Name x pos) X.env) Q E s :=
  Calls.Name_function_global I.ok.kind hg (Calls.loadGlobal_global (by rw [I.ok.glob]; exact I.mod.glob.keeps I.bk) hm h) hd
theorem ld_blt {E : Value → Shared → Prop} {pins : List (Addr × Obj)} {s : Shared} {σ : St} {H : Hp} {x : Str} {u : Value} {pos : Pos} {Q : Value → Shared → Prop} (I : Inv X pins σ H s) (hg : Gl X x) (hm : X.mg x = none) (hv : bootBuiltins x = some u) (h : Q u s)
    (hn : x ≠ "__name__" := by decide) (hd : (x == ("__debug__" : Str)) = false := by decide) : wpAny (model X.prog X.w) X.A (eval (.Name x pos) X.env) Q E s := by
  obtain ⟨mb, h1, h2⟩ := I.mod.blt
  exact Calls.Name_function_global I.ok.kind hg (Calls.loadGlobal_builtin (by rw [I.ok.glob]; exact I.mod.glob.keeps I.bk) hm (by rw [I.ok.blt]; exact h1.keeps I.bk) ((h2 x hn).trans hv) h) hd
/-- a module's constant, a class, a function, as a value -/
theorem pe_glob {x : Str} {v : V} {u : Value} {pos : Pos} (hg : Gl X x) (hm : X.mg x = some u) (r : RelV v u) (hd : (x == ("__debug__" : Str)) = false := by decide) : PE X (.Name x pos) (tC v) :=
  fun _ _ _ H _ I h => ld_glob I hg hm ⟨v, H, I, r, h⟩ hd
theorem pe_bltn {x : Str} {v : V} {u : Value} {pos : Pos} (hg : Gl X x) (hm : X.mg x = none) (hv : bootBuiltins x = some u) (r : RelV v u) (hn : x ≠ "__name__" := by decide) (hd : (x == ("__debug__" : Str)) = false := by decide) : PE X (.Name x pos) (tC v) :=
  fun _ _ _ H _ I h => ld_blt I hg hm hv ⟨v, H, I, r, h⟩ hn hd

/-! ### arithmetic -/
variable {a b : Expr} {ta tb : TE} {pos : Pos}
/-! ### comparisons -/
/-- a comparison as a value, as a test -/
def tB (t : TE) : TT := fun σ H Q => t σ H fun x H1 => ∃ c, x = .bl c ∧ Q c H1
/-- an expression whose value is a bool, as a test -/
theorem pt_val {e : Expr} {t : TE} (h : PE X e t) (he : ∀ whole, isTrue e X.env whole = (do let v ← whole; standAt e.pos; holding [v] (truthy v)) := by intro _; rfl) : PT X e (tB t) := by
  intro pins s σ H Q I hw
  refine isTrue_plain (thn (h pins s σ H _ I hw) fun v s1 ⟨x, H1, I1, r1, q1⟩ => ?_) (he _)
  obtain ⟨d, rfl, q⟩ := q1
  cases r1
  exact wpAny_truthy_bool ⟨H1, I1, q⟩

/-! ### and, or, not -/
variable {tA tB' : TT} {rest : List Expr}
def tAnd (t u : TT) : TT := fun σ H Q => t σ H fun c H1 => if c = true then u σ H1 Q else Q false H1
def tOr (t u : TT) : TT := fun σ H Q => t σ H fun c H1 => if c = true then Q true H1 else u σ H1 Q
def tNot (t : TT) : TT := fun σ H Q => t σ H fun c H1 => Q (!c) H1
theorem pw_or1 (ha : PT X a tA) : PW X (.BoolOp .Or [a] pos) tA := by
  intro wh pins s σ H Q I h
  refine isTrue_or (thn (ha pins s σ H Q I h) fun c s1 e => ?_)
  cases c with
  | false => exact isTrue_or_nil e
  | true => exact e
theorem pw_or (ha : PT X a tA) (hb : PW X (.BoolOp .Or (b :: rest) pos) tB') : PW X (.BoolOp .Or (a :: b :: rest) pos) (tOr tA tB') := by
  intro wh pins s σ H Q I h
  refine isTrue_or (thn (ha pins s σ H _ I h) fun c s1 ⟨H1, I1, q1⟩ => ?_)
  cases c with
  | true => exact ⟨H1, I1, q1⟩
  | false => exact hb wh pins s1 σ H1 Q I1 q1
theorem pt_not (ha : PT X a tA) : PT X (.UnaryOp .Not a pos) (tNot tA) := by
  intro pins s σ H Q I h
  exact isTrue_not (ha pins s σ H (fun c H1 => Q (!c) H1) I h)
/-- .. as values (bools) -/
def tAndV (ta tb : TE) : TE := fun σ H Q => ta σ H fun x H1 => ∃ c, x = .bl c ∧ if c = true then tb σ H1 Q else Q (.bl false) H1
def tOrV (ta tb : TE) : TE := fun σ H Q => ta σ H fun x H1 => ∃ c, x = .bl c ∧ if c = true then Q (.bl true) H1 else tb σ H1 Q
def tNotV (ta : TE) : TE := fun σ H Q => ta σ H fun x H1 => ∃ c, x = .bl c ∧ Q (.bl (!c)) H1
theorem pe_one {op} {t : TE} (h : PE X a t) : PE X (.BoolOp op [a] pos) t := fun pins s σ H Q I hw => BoolOp_one (h pins s σ H Q I hw)
theorem pe_and (ha : PE X a ta) (hb : PE X (.BoolOp .And (b :: rest) pos) tb) : PE X (.BoolOp .And (a :: b :: rest) pos) (tAndV ta tb) := by
  intro pins s σ H Q I h
  refine BoolOp_and (thn (ha pins s σ H _ I h) fun v s1 ⟨x, H1, I1, r1, q1⟩ => ?_)
  obtain ⟨c, rfl, q1⟩ := q1
  cases r1
  refine wpAny_truthy_bool ?_
  cases c with
  | true => exact hb pins s1 σ H1 Q I1 q1
  | false => exact ⟨.bl false, H1, I1, rfl, q1⟩
theorem pe_not (ha : PE X a ta) : PE X (.UnaryOp .Not a pos) (tNotV ta) := by
  intro pins s σ H Q I h
  refine UnaryOp_ (thn (ha pins s σ H _ I h) fun v s1 ⟨x, H1, I1, r1, q1⟩ => ?_)
  obtain ⟨c, rfl, q1⟩ := q1
  cases r1
  exact not_of (wpAny_truthy_bool ⟨.bl (!c), H1, I1, rfl, q1⟩)
/-- a if t else b -/
def tIf (t : TT) (ta tb : TE) : TE := fun σ H Q => t σ H fun c H1 => if c = true then ta σ H1 Q else tb σ H1 Q
theorem pe_ifExp {c : Expr} (hc : PT X c tA) (ha : PE X a ta) (hb : PE X b tb) : PE X (.IfExp c a b pos) (tIf tA ta tb) := by
  intro pins s σ H Q I h
  refine wpAny_IfExp (thn (hc pins s σ H _ I h) fun d s1 ⟨H1, I1, q1⟩ => ?_)
  cases d with
  | true => exact ha pins s1 σ H1 Q I1 q1
  | false => exact hb pins s1 σ H1 Q I1 q1
end
end L2

namespace L2
open PySem PySem.Spec PyProof.Rows

/-! ### a list, a tuple that is read: tracked, frozen, or an object of the module -/
def SqL (K : PySem.W.Frag) (H : Hp) (a : Addr) (xs : List V) : Prop :=
  Rd H a (.lst xs) ∨
    ∃ (o : Obj) (its : Array Value) (n : Nat), K.lookup a = some o ∧ o.cls = .type "list" ∧ o.dict = none ∧ o.data = .seq its n ∧ its.size ≤ sizeLine ∧ Vals xs its.toList
def SqT (K : PySem.W.Frag) (H : Hp) (a : Addr) (xs : List V) : Prop :=
  Rd H a (.tup xs) ∨
    ∃ (o : Obj) (its : Array Value) (n : Nat), K.lookup a = some o ∧ o.cls = .type "tuple" ∧ o.data = .seq its n ∧ its.size ≤ sizeLine ∧ Vals xs its.toList
def absV : Value → Option V
  | .none => some .non
  | .bool b => some (.bl b)
  | .int i _ => some (.int i)
  | .str x _ => some (.str x)
  | .bytes b _ => some (.byt b)
  | .float b _ => some (.flt b)
  | .ref a => some (.ref a)
  | .type n => some (.ty n)
  | _ => none
theorem RelV.abs {x : V} {u : Value} (r : RelV x u) : absV u = some x := by
  cases x with
  | non => cases r; rfl
  | bl _ => cases r; rfl
  | int _ => obtain ⟨t, rfl⟩ := r; rfl
  | str _ => obtain ⟨t, rfl⟩ := r; rfl
  | byt _ => obtain ⟨t, rfl⟩ := r; rfl
  | flt _ => obtain ⟨t, rfl⟩ := r; rfl
  | ref _ => cases r; rfl
  | ty _ => cases r; rfl
theorem RelV.inj {x y : V} {u : Value} (r : RelV x u) (q : RelV y u) : x = y := Option.some.inj (r.abs.symm.trans q.abs)
theorem Vals.inj : ∀ {xs ys : List V} {us : List Value}, Vals xs us → Vals ys us → xs = ys
  | _, _, _, .nil, .nil => rfl
  | _, _, _, .cons r t, .cons r' t' => by rw [r.inj r', Vals.inj t t']
section
variable {X : Cx} {pins : List (Addr × Obj)} {σ : St} {H : Hp} {s : Shared} {a : Addr} {xs ys : List V}
theorem SqL.of {K : PySem.W.Frag} (h : H a = some (.lst xs)) : SqL K H a xs := .inl (.inl h)
theorem SqT.of {K : PySem.W.Frag} (h : H a = some (.tup xs)) : SqT K H a xs := .inl (.inl h)
theorem Inv.list (I : Inv X pins σ H s) (h : SqL X.K H a xs) : ∃ its : List Value, Vals xs its ∧ PlainL s.heap a its.toArray ∧ xs.length ≤ sizeLine := by
  rcases h with h | ⟨o, its, n, hk, hc, hd, hs, hz, r⟩
  · obtain ⟨z, its, n, r, e⟩ := h.ok I.hok
    exact ⟨its, r, ⟨_, n, e, rfl, rfl, rfl⟩, z⟩
  · refine ⟨its.toList, r, ⟨o, n, I.kIn a o hk, hc, hd, by simpa using hs⟩, ?_⟩
    have e := r.length
    simp only [Array.length_toList] at e
    omega
theorem Inv.tuple (I : Inv X pins σ H s) (h : SqT X.K H a xs) : ∃ its : List Value, Vals xs its ∧ IsTup s.heap a its.toArray ∧ xs.length ≤ sizeLine := by
  rcases h with h | ⟨o, its, n, hk, hc, hs, hz, r⟩
  · obtain ⟨z, its, r, p⟩ := h.ok I.hok
    exact ⟨its, r, p, z⟩
  · refine ⟨its.toList, r, ⟨o, I.kIn a o hk, hc, n, by simpa using hs⟩, ?_⟩
    have e := r.length
    simp only [Array.length_toList] at e
    omega
theorem Inv.list_inj (I : Inv X pins σ H s) (h : SqL X.K H a xs) (h' : SqL X.K H a ys) : xs = ys := by
  obtain ⟨its, r, ⟨o, n, e, _, _, d⟩, _⟩ := I.list h
  obtain ⟨its', r', ⟨o', n', e', _, _, d'⟩, _⟩ := I.list h'
  rw [e] at e'; cases e'
  rw [d] at d'
  injection d' with d1 _
  have : its = its' := by simpa using congrArg Array.toList d1
  subst this
  exact r.inj r'
theorem Inv.tuple_inj (I : Inv X pins σ H s) (h : SqT X.K H a xs) (h' : SqT X.K H a ys) : xs = ys := by
  obtain ⟨its, r, ⟨o, e, _, n, d⟩, _⟩ := I.tuple h
  obtain ⟨its', r', ⟨o', e', _, n', d'⟩, _⟩ := I.tuple h'
  rw [e] at e'; cases e'
  rw [d] at d'
  injection d' with d1 _
  have : its = its' := by simpa using congrArg Array.toList d1
  subst this
  exact r.inj r'
end

/-! ### another wish about exceptions -/
abbrev Cx.wish (X : Cx) (E : Value → Shared → Prop) : Cx := { X with xe := E }
/-- no exception leaves -/
abbrev Cx.nox (X : Cx) : Cx := X.wish fun _ _ => False
theorem Cx.Ok.wish {X : Cx} (ok : X.Ok) (E : Value → Shared → Prop) : (X.wish E).Ok :=
  ⟨ok.mod, ok.kind, ok.glob, ok.blt, ok.above, ok.inj, ok.has, ok.cab, ok.hd, ok.frames, ok.stk, ok.exf, ok.bs, ok.bsz, ok.noex, ok.exfs, ok.funs, ok.frf⟩
theorem Cx.Ok.unwish {X : Cx} {E : Value → Shared → Prop} (ok : (X.wish E).Ok) : X.Ok :=
  ⟨ok.mod, ok.kind, ok.glob, ok.blt, ok.above, ok.inj, ok.has, ok.cab, ok.hd, ok.frames, ok.stk, ok.exf, ok.bs, ok.bsz, ok.noex, ok.exfs, ok.funs, ok.frf⟩
section
variable {X : Cx} {pins : List (Addr × Obj)} {σ : St} {H : Hp} {s : Shared} {E : Value → Shared → Prop}
theorem Inv.wish (I : Inv X pins σ H s) (E : Value → Shared → Prop) : Inv (X.wish E) pins σ H s := ⟨I.ok.wish E, I.os, I.bare, I.base, I.loc, I.cell, I.free, I.freeC, I.pin, I.hok, I.len⟩
theorem Inv.unwish (I : Inv (X.wish E) pins σ H s) : Inv X pins σ H s := ⟨I.ok.unwish, I.os, I.bare, I.base, I.loc, I.cell, I.free, I.freeC, I.pin, I.hok, I.len⟩
theorem SP.unwish {D : Ends} {f : Flow} {s' : Shared} (h : SP (X.wish E) pins D f s') : SP X pins D f s' := by
  cases f with
  | next => obtain ⟨σ', H', I, q⟩ := h; exact ⟨σ', H', I.unwish, q⟩
  | brk => obtain ⟨σ', H', I, q⟩ := h; exact ⟨σ', H', I.unwish, q⟩
  | cont => obtain ⟨σ', H', I, q⟩ := h; exact ⟨σ', H', I.unwish, q⟩
  | ret u => obtain ⟨v, σ', H', I, r, q⟩ := h; exact ⟨v, σ', H', I.unwish, r, q⟩
theorem PE.nox {e : Expr} {t : TE} (h : PE X.nox e t) : PE X e t := fun pins s σ H Q I hw =>
  wpAny_mono (h pins s σ H Q (I.wish _) hw) (fun _ _ ⟨v, H', I', r, q⟩ => ⟨v, H', I'.unwish, r, q⟩) fun _ _ z => False.elim z
theorem PT.nox {e : Expr} {t : TT} (h : PT X.nox e t) : PT X e t := fun pins s σ H Q I hw =>
  wpAny_mono (h pins s σ H Q (I.wish _) hw) (fun _ _ ⟨H', I', q⟩ => ⟨H', I'.unwish, q⟩) fun _ _ z => False.elim z
theorem PSs.nox {st : List Stmt} {t : TS} (h : PSs X.nox st t) : PSs X st t := fun pins s σ H D I hw =>
  wpAny_mono (h pins s σ H D (I.wish _) hw) (fun _ _ q => q.unwish) fun _ _ z => False.elim z
end

/-! ### blocks and small statements -/
section
variable {X : Cx} {st : Stmt} {rest : List Stmt} {t u : TS} {e : Expr} {te : TE} {pos : Pos}
def tNext : TS := fun D σ H => D.nx σ H
def tSeq (t u : TS) : TS := fun D σ H => t { D with nx := u D } σ H
theorem pss_nil : PSs X [] tNext := fun _ _ σ H _ I h => wpAny_execs_nil ⟨σ, H, I, h⟩
theorem pss_cons (h1 : PS X st t) (h2 : PSs X rest u) : PSs X (st :: rest) (tSeq t u) := by
  intro pins s σ H D I h
  refine wpAny_execs_cons (thn (h1 pins s σ H { D with nx := u D } I h) fun f s1 q => ?_)
  cases f with
  | next =>
    obtain ⟨σ', H', I', q⟩ := q
    exact h2 pins s1 σ' H' D I' q
  | ret v => exact q
  | brk => exact q
  | cont => exact q
theorem pss_one (h1 : PS X st t) : PSs X [st] t := by
  intro pins s σ H D I h
  refine wpAny_execs_cons (thn (h1 pins s σ H D I h) fun f s1 q => ?_)
  cases f with
  | next => exact wpAny_execs_nil q
  | ret v => exact q
  | brk => exact q
  | cont => exact q
/-- in a def's body nothing is shown -/
theorem Inv.quiet {pins : List (Addr × Obj)} {σ : St} {H : Hp} {s : Shared} (I : Inv X pins σ H s) : interactive X.env = false := by simp [interactive, I.ok.kind]
/-- an expression whose value is dropped -/
def tDrop (te : TE) : TS := fun D σ H => te σ H fun _ H1 => D.nx σ H1
theorem ps_expr (he : PE X e te) (hs : swapsWith e none pos.line X.env = pure false := by rfl) : PS X (.Expr e pos) (tDrop te) := by
  intro pins s σ H D I h
  exact wpAny_Expr_any (thn (he pins s σ H _ I h) fun v s1 ⟨x, H1, I1, r1, q1⟩ => ⟨σ, H1, I1, q1⟩) I.quiet hs
def tRet (te : TE) : TS := fun D σ H => te σ H D.rt
theorem ps_ret (he : PE X e te) : PS X (.Return (some e) pos) (tRet te) := by
  intro pins s σ H D I h
  exact wpAny_Return_some (thn (he pins s σ H _ I h) fun v s1 ⟨x, H1, I1, r1, q1⟩ => ⟨x, σ, H1, I1, r1, q1⟩)
def tRetN : TS := fun D _ H => D.rt .non H
def tIfS (c : TT) (t u : TS) : TS := fun D σ H => c σ H fun b H1 => if b = true then t D σ H1 else u D σ H1
theorem ps_if {c : Expr} {a b : List Stmt} {tc : TT} (hc : PT X c tc) (ha : PSs X a t) (hb : PSs X b u) : PS X (.If c a b pos) (tIfS tc t u) := by
  intro pins s σ H D I h
  refine wpAny_If (thn (hc pins s σ H _ I h) fun d s1 ⟨H1, I1, q1⟩ => ?_)
  cases d with
  | true => exact ha pins s1 σ H1 D I1 q1
  | false => exact hb pins s1 σ H1 D I1 q1
/-- code that the proof never comes to -/
def tNever : TS := fun _ _ _ => False
theorem ps_never : PS X st tNever := fun _ _ _ _ _ _ h => h.elim
end

/-! ### targets -/
abbrev TG := V → St → Hp → (St → Hp → Prop) → Prop
abbrev TGs := List V → St → Hp → (St → Hp → Prop) → Prop
def PG (X : Cx) (target : Expr) (t : TG) : Prop :=
  ∀ (pins : List (Addr × Obj)) (s : Shared) (σ : St) (H : Hp) (v : V) (u : Value) (Q : St → Hp → Prop), Inv X pins σ H s → RelV v u → t v σ H Q →
    wpAny (model X.prog X.w) X.A (assign target X.env u) (fun _ s' => ∃ σ' H', Inv X pins σ' H' s' ∧ Q σ' H') X.xe s
/-- several targets, one after another -/
def PGs (X : Cx) (ts : List Expr) (t : TGs) : Prop :=
  ∀ (pins : List (Addr × Obj)) (s : Shared) (σ : St) (H : Hp) (vs : List V) (us : List Value) (Q : St → Hp → Prop), Inv X pins σ H s → Vals vs us → t vs σ H Q →
    wpAny (model X.prog X.w) X.A (assignInOrder ((assignEach ts X.env).map (·.2)) us) (fun _ s' => ∃ σ' H', Inv X pins σ' H' s' ∧ Q σ' H') X.xe s
/-- o[i] = v, by values -/
abbrev TSet := V → V → V → Hp → (Hp → Prop) → Prop
def PSet (X : Cx) (t : TSet) : Prop :=
  ∀ (pins : List (Addr × Obj)) (s : Shared) (σ : St) (H : Hp) (o i v : V) (ov iv u : Value) (Q : Hp → Prop), Inv X pins σ H s → RelV o ov → RelV i iv → RelV v u → t o i v H Q →
    wpAny (model X.prog X.w) X.A (setItem ov iv u) (fun _ s' => ∃ H', Inv X pins σ H' s' ∧ Q H') X.xe s
/-- a op= b, by values -/
abbrev TIp := V → V → Hp → VK → Prop
def PIp (X : Cx) (op : Operator) (t : TIp) : Prop :=
  ∀ (pins : List (Addr × Obj)) (s : Shared) (σ : St) (H : Hp) (x y : V) (v u : Value) (Q : VK), Inv X pins σ H s → RelV x v → RelV y u → t x y H Q →
    wpAny (model X.prog X.w) X.A (inplaceOp op v u) (EP X pins σ Q) X.xe s
section
variable {X : Cx} {pos : Pos}
def gName (i : Nat) : TG := fun v σ H Q => Q (σ.set i (some v)) H
theorem pg_name {i : Nat} {x : Str} (hN : X.N.Nodup) (hi : X.N[i]? = some x) (hx : Loc X.env.scope x) (hf : X.fn x = true ∨ X.env.scope.names.lookup x = some .local := by first | exact .inl rfl | exact .inr rfl | assumption) : PG X (.Name x pos) (gName i) := by
  intro pins s σ H v u Q I r h
  exact wpAny_assign_Name (store_ok I hN hi hx r (fun s' I' => ⟨_, H, I', h⟩) hf)
def gNil : TGs := fun vs σ H Q => vs = [] ∧ Q σ H
def gCons (t : TG) (u : TGs) : TGs := fun vs σ H Q => ∃ v r, vs = v :: r ∧ t v σ H fun σ' H' => u r σ' H' Q
theorem pgs_nil : PGs X [] gNil := by
  intro pins s σ H vs us Q I r h
  obtain ⟨e, h⟩ := h
  subst e
  cases r
  exact assignInOrder_nil ⟨σ, H, I, h⟩
theorem pgs_cons {e : Expr} {es : List Expr} {t : TG} {u : TGs} (h1 : PG X e t) (h2 : PGs X es u)
    (hs : (assignEach (e :: es) X.env).map (·.2) = assign e X.env :: (assignEach es X.env).map (·.2) := by rfl) : PGs X (e :: es) (gCons t u) := by
  intro pins s σ H vs us Q I r h
  obtain ⟨v, vr, e1, h⟩ := h
  subst e1
  cases r with
  | cons r rr =>
    rw [hs]
    refine assignInOrder_cons (thn (h1 pins s σ H _ _ _ I r h) fun _ s1 ⟨σ1, H1, I1, q1⟩ => ?_)
    exact h2 pins s1 σ1 H1 _ _ Q I1 rr q1
/-- (a, b, ..) = a tuple of that length -/
def gTup (K : PySem.W.Frag) (n : Nat) (t : TGs) : TG := fun v σ H Q => ∃ a xs, v = .ref a ∧ SqT K H a xs ∧ xs.length = n ∧ t xs σ H Q
theorem pg_tup {es : List Expr} {k : Nat} {t : TGs} {n : Nat} (hc : X.calm = true) (h : PGs X es t)
    (hn : (assignEach es X.env).length = n := by rfl) (hst : (assignEach es X.env).findIdx? (·.1) = none := by rfl) : PG X (.Tuple es k pos) (gTup X.K n t) := by
  intro pins s σ H v u Q I r hw
  obtain ⟨a, xs, e1, hq, hl, hw⟩ := hw
  subst e1
  cases r
  obtain ⟨its, rv, ht, hz⟩ := I.tuple hq
  refine assign_Tuple_tuple (I.ok.hd hc) ht (by simp [hn, ← hl, rv.length]) hst fun h' hx => ?_
  have I1 : Inv X pins σ H { s with heap := h' } := I.kept (t' := s.toks) fun b o e => hx b o (Nat.ne_of_lt (Heap.lt_size e)) e
  exact h pins _ σ H xs _ Q I1 (by simpa using rv) hw
/-- o[i] = .. -/
def gSub (to ti : TE) (t : TSet) : TG := fun v σ H Q => to σ H fun o H1 => ti σ H1 fun i H2 => t o i v H2 fun H3 => Q σ H3
/-- target = value -/
def tAsg (te : TE) (g : TG) : TS := fun D σ H => te σ H fun x H1 => g x σ H1 D.nx
/-- name = value -/
theorem ps_set {i : Nat} {x : Str} {e : Expr} {te : TE} {pos' : Pos} (hN : X.N.Nodup) (hi : X.N[i]? = some x) (hx : Loc X.env.scope x) (he : PE X e te) (hs : swapsWith e (some (.Name x pos')) pos.line X.env = pure false := by rfl) (hf : X.fn x = true ∨ X.env.scope.names.lookup x = some .local := by first | exact .inl rfl | exact .inr rfl | assumption) :
    PS X (.Assign [.Name x pos'] e pos) (tAsg te (gName i)) := by
  intro pins s σ H D I h
  refine wpAny_Assign_Name (thn (he pins s σ H _ I h) fun v s1 ⟨y, H1, I1, r1, q1⟩ => ?_) hs
  exact store_ok I1 hN hi hx r1 (fun s2 I2 => ⟨_, H1, I2, q1⟩) hf
/-- name op= e -/
def tAug (i : Nat) (te : TE) (ti : TIp) : TS := fun D σ H => ∃ x, σ[i]? = some (some x) ∧ te σ H fun y H1 => ti x y H1 fun z H2 => D.nx (σ.set i (some z)) H2
/-- o[i] op= e -/
def tAugS (to ti te : TE) (tget : V → V → Hp → VK → Prop) (tip : TIp) (tset : TSet) : TS := fun D σ H => to σ H fun o H1 => ti σ H1 fun i H2 => tget o i H2 fun x H3 => te σ H3 fun y H4 => tip x y H4 fun z H5 => tset o i z H5 fun H6 => D.nx σ H6
/-- o[i], by values -/
def PGet (X : Cx) (t : V → V → Hp → VK → Prop) : Prop :=
  ∀ (pins : List (Addr × Obj)) (s : Shared) (σ : St) (H : Hp) (o i : V) (ov iv : Value) (Q : VK), Inv X pins σ H s → RelV o ov → RelV i iv → t o i H Q →
    wpAny (model X.prog X.w) X.A (getItem ov iv) (EP X pins σ Q) X.xe s
theorem ps_augS {o i e : Expr} {to ti te : TE} {tget : V → V → Hp → VK → Prop} {tip : TIp} {tset : TSet} {op : Operator} {tpos : Pos} (ho : PE X o to) (hi : PE X i ti) (hg : PGet X tget) (he : PE X e te) (hp : PIp X op tip) (hs : PSet X tset)
    (ha : ∀ ov iv new, augStore i ov iv new = (do holding [new, ov, iv] (setItem ov iv new); release [new, ov, iv] []; pure .next) := by intros; rfl) : PS X (.AugAssign (.Subscript o i tpos) op e pos) (tAugS to ti te tget tip tset) := by
  intro pins s σ H D I h
  refine wpAny_AugAssign_SubscriptAny (thn (ho pins s σ H _ I h) fun ov s1 ⟨x1, H1, I1, r1, q1⟩ => ?_) ha
  refine thn (hi pins s1 σ H1 _ I1 q1) fun iv s2 ⟨x2, H2, I2, r2, q2⟩ => ?_
  refine thn (hg pins s2 σ H2 x1 x2 ov iv _ I2 r1 r2 q2) fun old s3 ⟨x3, H3, I3, r3, q3⟩ => ?_
  refine thn (he pins s3 σ H3 _ I3 q3) fun v s4 ⟨x4, H4, I4, r4, q4⟩ => ?_
  refine thn (hp pins s4 σ H4 x3 x4 old v _ I4 r3 r4 q4) fun new s5 ⟨x5, H5, I5, r5, q5⟩ => ?_
  exact thn (hs pins s5 σ H5 x1 x2 x5 ov iv new _ I5 r1 r2 r5 q5) fun _ s6 ⟨H6, I6, q6⟩ => ⟨σ, H6, I6, q6⟩
/-- ints -/
def ipI (f : Int → Int → Int) : TIp := fun x y H Q => ∃ i j, x = .int i ∧ y = .int j ∧ Q (.int (f i j)) H
theorem ip_add : PIp X .Add (ipI fun i j => i + j) := by
  intro pins s σ H x y v u Q I r1 r2 h
  obtain ⟨i, j, e1, e2, q⟩ := h
  subst e1; subst e2
  obtain ⟨t, rfl⟩ := r1
  obtain ⟨t', rfl⟩ := r2
  exact iadd_int ⟨.int _, H, I.tok _, ⟨_, rfl⟩, q⟩
end

/-! ### while -/
section
variable {X : Cx} {pos : Pos}
end

/-! ### what a loop or a comprehension walks -/
/-- at turn i: it yields x (the heap may grow), or it stops -/
structure It where
  go : Nat → Hp → Prop
  yld : Nat → Hp → V → Hp → Prop
  stop : Nat → Hp → Prop
/-- the iterator's own objects may turn: they are not the frame's, not pinned, younger than the entry (or a comprehension's own) -/
def FpOk (X : Cx) (pins : List (Addr × Obj)) (H : Hp) (b : Addr) : Prop :=
  H b = none ∧ b ≠ X.env.locals ∧ b ∉ X.fs ∧ (b ∈ X.ex ∨ X.s₀.heap.objs.size ≤ b) ∧ (∀ x c, X.env.cells.lookup x = some c → c ≠ b) ∧ ∀ p ∈ X.pn ++ pins, p.1 ≠ b
theorem Inv.fpOk {X : Cx} {pins : List (Addr × Obj)} {σ : St} {H H' : Hp} {s : Shared} {b : Addr} (I : Inv X pins σ H s) (hb : s.heap.objs.size ≤ b) (hn : H' b = none) : FpOk X pins H' b := by
  refine ⟨hn, Nat.ne_of_gt (Nat.lt_of_lt_of_le I.lt hb), I.nofs hb, .inr (Nat.le_trans I.sz hb), fun x c e z => ?_, fun p hp z => ?_⟩
  · obtain ⟨v, q⟩ := I.cell x c e
    exact absurd (Nat.lt_of_lt_of_le q.lt (by rw [z]; exact hb)) (Nat.lt_irrefl _)
  · exact absurd (Nat.lt_of_lt_of_le (Heap.lt_size (I.pin p hp).1) (by rw [z]; exact hb)) (Nat.lt_irrefl _)
structure Turn (P : Program) (w : World) (K : PySem.W.Frag) (tg : Expr) (J : It) (fp : List Addr) (it : Addr) (tn : Nat → Heap → Prop) : Prop where
  mem : it ∈ fp
  obj : ∀ i h, tn i h → ∀ b ∈ fp, ∃ o, h.get? b = some o ∧ ∀ v, o.data ≠ .cell v
  keep : ∀ i h h', tn i h → (∀ b ∈ fp, ∀ o, h.get? b = some o → h'.get? b = some o) → tn i h'
  item : ∀ (X : Cx), X.prog = P → X.w = w → X.K = K → X.calm = true → ∀ (i : Nat) (pins : List (Addr × Obj)) (s : Shared) (σ : St) (H : Hp) (E : Value → Shared → Prop), Inv X pins σ H s → (∀ b ∈ fp, FpOk X pins H b) → tn i s.heap → J.go i H →
    wpAny (model P w) X.A (pyNext (.ref it)) (fun r s1 => ∃ u, r = some u ∧
      wpAny (model P w) X.A (letOwnedTupleGo tg (.ref it) u) (fun _ s2 => ∃ x H', Inv X pins σ H' s2 ∧ RelV x u ∧ J.yld i H x H' ∧ tn (i + 1) s2.heap ∧ ∀ b ∈ fp, H' b = none) E s1) E s
  done : ∀ (X : Cx), X.prog = P → X.w = w → X.K = K → X.calm = true → ∀ (i : Nat) (pins : List (Addr × Obj)) (s : Shared) (σ : St) (H : Hp) (E : Value → Shared → Prop), Inv X pins σ H s → (∀ b ∈ fp, FpOk X pins H b) → tn i s.heap → J.stop i H →
    wpAny (model P w) X.A (pyNext (.ref it)) (fun r s1 => r = none ∧ Inv X pins σ H s1) E s
  self : ∀ (A : Around) (i : Nat) (s : Shared) (Q : Value → Shared → Prop) (E : Value → Shared → Prop), tn i s.heap → Q (.ref it) s → wpAny (model P w) A (pyIter (.ref it)) Q E s
abbrev TI := St → Hp → (It → Hp → Prop) → Prop
/-- an iterator has come -/
def PIE (X : Cx) (pins : List (Addr × Obj)) (σ : St) (tg : Expr) (R : It → Hp → Prop) (itv : Value) (s2 : Shared) : Prop :=
  ∃ (it : Addr) (fp : List Addr) (tn : Nat → Heap → Prop) (J : It) (H' : Hp), itv = .ref it ∧ Inv X pins σ H' s2 ∧ Turn X.prog X.w X.K tg J fp it tn ∧ tn 0 s2.heap ∧ (∀ b ∈ fp, FpOk X pins H' b) ∧ R J H'
def PI (X : Cx) (tg iter : Expr) (wi : TI) : Prop :=
  ∀ (pins : List (Addr × Obj)) (s : Shared) (σ : St) (H : Hp) (R : It → Hp → Prop), Inv X pins σ H s → wi σ H R →
    wpAny (model X.prog X.w) X.A (eval iter X.env) (fun v s1 => wpAny (model X.prog X.w) X.A (pyIter v) (PIE X pins σ tg R) X.xe s1) X.xe s

/-- the step ahead of the store is nothing for an iterator that keeps no tuple -/
theorem go_of {M : Model} {A : Around} {E : Value → Shared → Prop} {s : Shared} {tg : Expr} {it : Addr} {u : Value} {o : Obj} {n : String} {vs : Array Value} {Q : Unit → Shared → Prop} (ho : s.heap.get? it = some o) (hc : o.cls = .type n) (hd : o.data = .fields vs)
    (hn : ["enumerate", "zip", "dict_itemiterator", "dict_reverseitemiterator", "odict_iterator", "itertools.zip_longest", "itertools.pairwise"].contains n = false) (hQ : Q () s) : wpAny M A (letOwnedTupleGo tg (.ref it) u) Q E s := by
  unfold letOwnedTupleGo
  cases tg <;> first
    | exact wpAny_pure hQ
    | (cases u <;> first
        | exact wpAny_pure hQ
        | (refine wpAny_bind (wpAny_load ho ?_)
           rw [hc, hd]
           show wpAny M A (if (["enumerate", "zip", "dict_itemiterator", "dict_reverseitemiterator", "odict_iterator", "itertools.zip_longest", "itertools.pairwise"].contains n && vs[0]? == some (rawInt _)) = true then _ else _) Q E s
           rw [if_neg (by intro h; rw [hn, Bool.false_and] at h; cases h)]
           exact wpAny_pure hQ))

/-- the list at a, as it stands at each turn (a loop may append to it) -/
def Itl (K : PySem.W.Frag) (a : Addr) : It :=
  ⟨fun i H => ∃ xs x, SqL K H a xs ∧ xs[i]? = some x, fun i H x H' => H' = H ∧ ∀ xs, SqL K H a xs → xs[i]? = some x, fun i H => ∃ xs, SqL K H a xs ∧ xs.length ≤ i⟩
def Itt (K : PySem.W.Frag) (a : Addr) : It :=
  ⟨fun i H => ∃ xs x, SqT K H a xs ∧ xs[i]? = some x, fun i H x H' => H' = H ∧ ∀ xs, SqT K H a xs → xs[i]? = some x, fun i H => ∃ xs, SqT K H a xs ∧ xs.length ≤ i⟩
/-- lo, lo + 1, .. (n of them) -/
def Itr (lo : Int) (n : Nat) : It := ⟨fun i _ => i < n, fun i H x H' => H' = H ∧ x = .int (lo + i), fun i _ => n ≤ i⟩
theorem turn_list {P : Program} {w : World} {K : PySem.W.Frag} {tg : Expr} (a it : Addr) : Turn P w K tg (Itl K a) [it] it (fun i h => h.IsListIter it a i) where
  mem := by simp
  obj := fun i h st b hb => by
    have e : b = it := by simpa using hb
    subst e
    obtain ⟨o, e, c, d⟩ := st
    exact ⟨o, e, fun v z => by rw [d] at z; cases z⟩
  keep := fun i h h' st k => st.at fun o e => k it (by simp) o e
  item := by
    intro X hP hw hK hc i pins s σ H E I hf st hg
    subst hP hw hK
    obtain ⟨xs, x, hq, hx⟩ := hg
    obtain ⟨its, rv, p, hz⟩ := I.list hq
    obtain ⟨u, hu, ru⟩ := rv.get hx
    obtain ⟨f0, f1, f2, f3, f4, f5⟩ := hf it (by simp)
    refine wpAny_pyNext_list_item st p.isList (x := u) (by simpa using hu) fun h' st' sb => ?_
    have I1 : Inv X pins σ H { s with heap := h' } := I.turned (t' := s.toks) (fun b o hb e => (sb.2 b hb).trans e) f0 f1 f3 f4 f5
    obtain ⟨o, e, c, d⟩ := id st'
    exact ⟨u, rfl, go_of (s := { s with heap := h' }) e c d (by decide) ⟨x, H, I1, ru, ⟨rfl, fun ys hy => by rw [I.list_inj hy hq]; exact hx⟩, st', fun b hb => (hf b hb).1⟩⟩
  done := by
    intro X hP hw hK hc i pins s σ H E I hf st hg
    subst hP hw hK
    obtain ⟨xs, hq, hx⟩ := hg
    obtain ⟨its, rv, p, hz⟩ := I.list hq
    obtain ⟨f0, f1, f2, f3, f4, f5⟩ := hf it (by simp)
    have hl := rv.length
    exact wpAny_pyNext_list_end (I.ok.hd hc) st p.isList (by simp; omega) fun h' eb => ⟨rfl, I.turned (t' := s.toks) (fun b o hb e => eb b o hb e) f0 f1 f3 f4 f5⟩
  self := fun _ _ _ _ _ st h => wpAny_pyIter_listiter st h
theorem turn_tuple {P : Program} {w : World} {K : PySem.W.Frag} {tg : Expr} (a it : Addr) : Turn P w K tg (Itt K a) [it] it (fun i h => h.IsTupleIter it a i) where
  mem := by simp
  obj := fun i h st b hb => by
    have e : b = it := by simpa using hb
    subst e
    obtain ⟨o, e, c, d⟩ := st
    exact ⟨o, e, fun v z => by rw [d] at z; cases z⟩
  keep := fun i h h' st k => st.at fun o e => k it (by simp) o e
  item := by
    intro X hP hw hK hc i pins s σ H E I hf st hg
    subst hP hw hK
    obtain ⟨xs, x, hq, hx⟩ := hg
    obtain ⟨its, rv, p, hz⟩ := I.tuple hq
    obtain ⟨u, hu, ru⟩ := rv.get hx
    obtain ⟨f0, f1, f2, f3, f4, f5⟩ := hf it (by simp)
    refine wpAny_pyNext_tuple_item st (show s.heap.IsTuple a its.toArray from p) (x := u) (by simpa using hu) fun h' st' sb => ?_
    have I1 : Inv X pins σ H { s with heap := h' } := I.turned (t' := s.toks) (fun b o hb e => (sb.2 b hb).trans e) f0 f1 f3 f4 f5
    obtain ⟨o, e, c, d⟩ := id st'
    exact ⟨u, rfl, go_of (s := { s with heap := h' }) e c d (by decide) ⟨x, H, I1, ru, ⟨rfl, fun ys hy => by rw [I.tuple_inj hy hq]; exact hx⟩, st', fun b hb => (hf b hb).1⟩⟩
  done := by
    intro X hP hw hK hc i pins s σ H E I hf st hg
    subst hP hw hK
    obtain ⟨xs, hq, hx⟩ := hg
    obtain ⟨its, rv, p, hz⟩ := I.tuple hq
    obtain ⟨f0, f1, f2, f3, f4, f5⟩ := hf it (by simp)
    have hl := rv.length
    exact wpAny_pyNext_tuple_end (I.ok.hd hc) st (show s.heap.IsTuple a its.toArray from p) (by simp; omega) fun h' eb => ⟨rfl, I.turned (t' := s.toks) (fun b o hb e => eb b o hb e) f0 f1 f3 f4 f5⟩
  self := fun _ _ _ _ _ st h => wpAny_pyIter_tupleiter st h
theorem turn_range {P : Program} {w : World} {K : PySem.W.Frag} {tg : Expr} (it : Addr) (lo : Int) (n : Nat) : Turn P w K tg (Itr lo n) [it] it (fun i h => IsRangeIter h it (lo + (i : Nat) * 1) ((n : Int) - (i : Nat)) 1) where
  mem := by simp
  obj := fun i h st b hb => by
    have e : b = it := by simpa using hb
    subst e
    exact ⟨_, st, fun v z => by
      have z' : Data.fields _ = Data.cell v := z
      cases z'⟩
  keep := fun i h h' st k => k it (by simp) _ st
  item := by
    intro X hP hw hK hc i pins s σ H E I hf st hg
    subst hP hw hK
    obtain ⟨f0, f1, f2, f3, f4, f5⟩ := hf it (by simp)
    have W := Walks.range (prog := X.prog) (w := X.w) (I.ok.hd hc) it lo 1 n
    refine W.item i s _ _ hg st fun v h' tk hv st' kk => ?_
    obtain ⟨t, rfl⟩ := hv
    have I1 : Inv X pins σ H { s with heap := h', toks := tk } := I.turned (fun b o hb e => kk b o (by simpa using hb) e) f0 f1 f3 f4 f5
    refine ⟨_, rfl, go_of (s := { s with heap := h', toks := tk }) (n := "range_iterator") st' rfl rfl (by decide) ⟨.int (lo + i), H, I1, ⟨t, ?_⟩, ⟨rfl, rfl⟩, st', fun b hb => (hf b hb).1⟩⟩
    rw [Int.mul_one]
  done := by
    intro X hP hw hK hc i pins s σ H E I hf st hg
    subst hP hw hK
    obtain ⟨f0, f1, f2, f3, f4, f5⟩ := hf it (by simp)
    exact wpAny_pyNext_range_end (I.ok.hd hc) st (by have : n ≤ i := hg; omega) fun h' eb => ⟨rfl, I.turned (t' := s.toks) (fun b o hb e => eb b o hb e) f0 f1 f3 f4 f5⟩
  self := fun _ _ _ _ _ st h => wpAny_pyIter_rangeiter st h
end L2

namespace L2
open PySem PySem.Spec PyProof.Rows
section
variable {X : Cx} {tg : Expr}
/-- a range object just made, walked -/
theorem range_it {pins : List (Addr × Obj)} {σ : St} {H : Hp} {s : Shared} {R : It → Hp → Prop} {E : Value → Shared → Prop} {lo hi : Int} {t u v : Tok} {tk : Nat} (I : Inv X pins σ H s) (h1 : -(2 ^ 62) ≤ lo) (h2 : lo < 2 ^ 62) (h3 : -(2 ^ 62) ≤ hi) (h4 : hi < 2 ^ 62)
    (q : R (Itr lo (hi - lo).toNat) H) : wpAny (model X.prog X.w) X.A (pyIter (.ref s.heap.objs.size)) (PIE X pins σ tg R) E { s with heap := s.heap.push { cls := .type "range", data := .fields #[.int lo t, .int hi u, .int 1 v] }, toks := tk } := by
  refine wpAny_pyIter_range (IsRange.new ..) (small_one h1 h2 h3 h4) ?_
  have I1 : Inv X pins σ H { s with heap := s.heap.push { cls := .type "range", data := .fields #[.int lo t, .int hi u, .int 1 v] }, toks := tk } := I.kept fun b o e => Heap.get?_push_of_some _ e
  refine ⟨(s.heap.push { cls := .type "range", data := .fields #[.int lo t, .int hi u, .int 1 v] }).objs.size, [(s.heap.push { cls := .type "range", data := .fields #[.int lo t, .int hi u, .int 1 v] }).objs.size], _, _, H, rfl,
    I1.kept (t' := tk) fun b o e => Heap.get?_push_of_some _ e, turn_range _ lo (hi - lo).toNat, ?_, fun b hb => ?_, q⟩
  · have e1 : lo + ((0 : Nat) : Int) * 1 = lo := by simp
    have e2 : (((hi - lo).toNat : Nat) : Int) - ((0 : Nat) : Int) = Builtin.Range.rangeSize lo hi 1 := by rw [rangeSize_one]; split <;> omega
    show IsRangeIter _ _ (lo + ((0 : Nat) : Int) * 1) ((((hi - lo).toNat : Nat) : Int) - ((0 : Nat) : Int)) 1
    rw [e1, e2]
    exact Heap.get?_push_size _ rfl
  · have e : b = (s.heap.push { cls := .type "range", data := .fields #[.int lo t, .int hi u, .int 1 v] }).objs.size := by simpa using hb
    subst e
    exact I1.fpOk (Nat.le_refl _) (I1.hok.fresh (Nat.le_refl _))
def iRng1 (ta : TA) : TI := fun σ H R => ta σ H fun vs H1 => ∃ j : Int, vs = [.int j] ∧ -(2 ^ 62) ≤ j ∧ j < 2 ^ 62 ∧ R (Itr 0 j.toNat) H1
def iRng2 (ta : TA) : TI := fun σ H R => ta σ H fun vs H1 => ∃ i j : Int, vs = [.int i, .int j] ∧ (-(2 ^ 62) ≤ i ∧ i < 2 ^ 62 ∧ -(2 ^ 62) ≤ j ∧ j < 2 ^ 62) ∧ R (Itr i (j - i).toNat) H1
theorem pi_range1 {a : Expr} {ta : TA} {p pos : Pos} (hg : Gl X "range") (hm : X.mg "range" = none) (ha : PA X [a] ta) (hs : starEach [a] X.env = [(false, eval a X.env)] := by rfl) : PI X tg (.Call (.Name "range" p) [a] [] pos) (iRng1 ta) := by
  intro pins s σ H R I h
  refine Call_ (ld_blt I hg hm boot_range (PyProof.Rows.callWith_type1 (thn (ha pos pins s σ H _ I h) fun us s1 ⟨vs, H1, I1, r1, q1⟩ => ?_) hs rfl))
  obtain ⟨j, e, q1, q2, q⟩ := q1
  subst e
  cases r1 with
  | cons r rr =>
    cases rr
    obtain ⟨t, rfl⟩ := r
    exact call_range_1 (range_it I1 (by omega) (by omega) q1 q2 (by simpa using q))
theorem pi_range2 {a b : Expr} {ta : TA} {p pos : Pos} (hg : Gl X "range") (hm : X.mg "range" = none) (ha : PA X [a, b] ta) (hs : starEach [a, b] X.env = [(false, eval a X.env), (false, eval b X.env)] := by rfl) (hs2 : starEach [b] X.env = [(false, eval b X.env)] := by rfl) :
    PI X tg (.Call (.Name "range" p) [a, b] [] pos) (iRng2 ta) := by
  intro pins s σ H R I h
  refine Call_ (ld_blt I hg hm boot_range (PyProof.Rows.callWith_type1 (thn (ha pos pins s σ H _ I h) fun us s1 ⟨vs, H1, I1, r1, q1⟩ => ?_) (by rw [hs, hs2]) (by rw [hs2]; rfl)))
  obtain ⟨i, j, e, ⟨q1, q2, q3, q4⟩, q⟩ := q1
  subst e
  cases r1 with
  | cons r rr =>
    cases rr with
    | cons r' rr =>
      cases rr
      obtain ⟨t, rfl⟩ := r
      obtain ⟨t', rfl⟩ := r'
      exact call_range_2 (range_it I1 q1 q2 q3 q4 q)

/-! ### for -/
/-- W: the invariant by the turn and a measure; N: what the body is to reach -/
def tFor (wi : TI) (g : TG) (tb : TS) : TS := fun D σ H => wi σ H fun J H1 => ∃ W : Nat → Nat → St → Hp → Prop, (∃ m, W 0 m σ H1) ∧ ∀ i m σ H, W i m σ H →
  (J.stop i H ∧ D.nx σ H) ∨ (J.go i H ∧ ∃ N : St → Hp → Prop, (∀ σ' H', N σ' H' → ∃ m', m' < m ∧ W (i + 1) m' σ' H') ∧ ∀ x H', J.yld i H x H' → g x σ H' fun σ2 H2 => tb { D with nx := N, ct := N, bk := D.nx } σ2 H2)
/-- the records at fp as they stand -/
def pinsAt (fp : List Addr) (h : Heap) : List (Addr × Obj) := fp.filterMap fun b => (h.get? b).map fun o => (b, o)
theorem mem_pinsAt {fp : List Addr} {h : Heap} {b : Addr} {o : Obj} (hb : b ∈ fp) (e : h.get? b = some o) : (b, o) ∈ pinsAt fp h := List.mem_filterMap.mpr ⟨b, hb, by rw [e]; rfl⟩
theorem of_pinsAt {fp : List Addr} {h : Heap} {p : Addr × Obj} (hp : p ∈ pinsAt fp h) : p.1 ∈ fp ∧ h.get? p.1 = some p.2 := by
  obtain ⟨b, hb, e⟩ := List.mem_filterMap.mp hp
  cases q : h.get? b with
  | none => rw [q] at e; cases e
  | some o =>
    rw [q] at e
    have e' : (b, o) = p := Option.some.inj e
    subst e'
    exact ⟨hb, q⟩
theorem Inv.pinned {pins : List (Addr × Obj)} {σ : St} {H : Hp} {s : Shared} {fp : List Addr} (I : Inv X pins σ H s) (hf : ∀ b ∈ fp, FpOk X pins H b) (ho : ∀ b ∈ fp, ∃ o, s.heap.get? b = some o ∧ ∀ v, o.data ≠ .cell v) : Inv X (pins ++ pinsAt fp s.heap) σ H s :=
  I.pins_of fun p hp => (List.mem_append.mp hp).elim (fun z => I.pin p (List.mem_append_right _ z)) fun z => by
    obtain ⟨hb, e⟩ := of_pinsAt z
    obtain ⟨f0, f1, f2, _⟩ := hf p.1 hb
    obtain ⟨o, e', d⟩ := ho p.1 hb
    rw [e] at e'; cases e'
    exact ⟨e, f0, f1, f2, d⟩
theorem Inv.unpinned {pins pl : List (Addr × Obj)} {σ : St} {H : Hp} {s : Shared} (I : Inv X (pins ++ pl) σ H s) : Inv X pins σ H s := I.pins_of fun p hp => I.pin p (List.mem_append_right _ (List.mem_append_left _ hp))
theorem ps_for {iter : Expr} {body : List Stmt} {wi : TI} {g : TG} {tb : TS} {pos : Pos} (hp : PassesOwn (model X.prog X.w) X.A X.env X.xe) (hc : X.calm = true) (hi : PI X tg iter wi) (hg : PG X tg g) (hb : PSs X body tb)
    (hs : ∀ x, foldedSetIterable iter X.env x = pure x := by intro _; rfl) : PS X (.For tg iter body [] pos) (tFor wi g tb) := by
  intro pins s σ H D I h
  refine wpAny_For (thn (hi pins s σ H _ I h) fun v s1 h1 => thn h1 fun itv s2 h2 => ?_) hs
  obtain ⟨it, fp, tn, J, H2, e, I2, T, st2, f2, W, ⟨m0, w0⟩, turn⟩ := h2
  subst e
  -- what stays true of the iterator's objects through the loop
  have stat : ∀ {H' : Hp}, (∀ b ∈ fp, H' b = none) → ∀ b ∈ fp, FpOk X pins H' b := fun hn b hb => ⟨hn b hb, (f2 b hb).2⟩
  refine codeAny_forLoop_any (fun n s' => ∃ i σ' H', Inv X pins σ' H' s' ∧ tn i s'.heap ∧ (∀ b ∈ fp, H' b = none) ∧ W i n σ' H') ?_ m0 ⟨0, σ, H2, I2, st2, fun b hb => (f2 b hb).1, w0⟩
  rintro n s3 ⟨i, σ3, H3, I3, st3, fr3, w3⟩
  rcases turn i n σ3 H3 w3 with ⟨stop, qn⟩ | ⟨go, N, hN, step⟩
  · refine wpAny_passesOwn hp (thn (T.done X rfl rfl rfl hc i pins s3 σ3 H3 X.xe I3 (stat fr3) st3 stop) fun r s4 ⟨hr, I4⟩ => ?_)
    subst hr
    exact wpAny_execs_nil ⟨σ3, H3, I4, qn⟩
  · refine wpAny_passesOwn hp (thn (T.item X rfl rfl rfl hc i pins s3 σ3 H3 X.xe I3 (stat fr3) st3 go) fun r s4 ⟨u, hr, h4⟩ => ?_)
    subst hr
    refine wpAny_passesOwn hp (thn h4 fun _ s5 ⟨x, H5, I5, r5, y5, st5, fr5⟩ => ?_)
    have I5' := I5.pinned (stat fr5) (T.obj _ _ st5)
    refine wpAny_passesOwn hp (thn (hg _ s5 σ3 H5 x u _ I5' r5 (step x H5 y5)) fun _ s6 ⟨σ6, H6, I6, q6⟩ => ?_)
    refine wpAny_passesOwn hp (thn (hb _ s6 σ6 H6 _ I6 q6) fun f s7 q7 => ?_)
    have again : ∀ {σ7 : St} {H7 : Hp}, Inv X (pins ++ pinsAt fp s5.heap) σ7 H7 s7 → N σ7 H7 → ∃ m, m < n ∧ ∃ i σ' H', Inv X pins σ' H' s7 ∧ tn i s7.heap ∧ (∀ b ∈ fp, H' b = none) ∧ W i m σ' H' := fun {σ7 H7} I7 n7 => by
      obtain ⟨m', hm, w7⟩ := hN σ7 H7 n7
      refine ⟨m', hm, i + 1, σ7, H7, I7.unpinned, T.keep _ _ _ st5 fun b hb o e => (I7.pin (b, o) (List.mem_append_right _ (List.mem_append_right _ (mem_pinsAt hb e)))).1, fun b hb => ?_, w7⟩
      obtain ⟨o, e, d⟩ := T.obj _ _ st5 b hb
      exact (I7.pin (b, o) (List.mem_append_right _ (List.mem_append_right _ (mem_pinsAt hb e)))).2.1
    cases f with
    | next => obtain ⟨σ7, H7, I7, n7⟩ := q7; exact again I7 n7
    | cont => obtain ⟨σ7, H7, I7, n7⟩ := q7; exact again I7 n7
    | brk => obtain ⟨σ7, H7, I7, q7⟩ := q7; exact ⟨σ7, H7, I7.unpinned, q7⟩
    | ret v => obtain ⟨x7, σ7, H7, I7, r7, q7⟩ := q7; exact ⟨x7, σ7, H7, I7.unpinned, r7, q7⟩
end

/-! ### the forms one uses -/
/-- over a list that the body leaves as it is -/
theorem for_list {K : PySem.W.Frag} {a : Addr} {xs : List V} {g : TG} {tb : TS} {D : Ends} {σ : St} {H : Hp} (Pv : Nat → St → Hp → Prop) (h0 : Pv 0 σ H) (hl : ∀ i σ H, i ≤ xs.length → Pv i σ H → SqL K H a xs)
    (hs : ∀ i x σ H, xs[i]? = some x → Pv i σ H → g x σ H fun σ2 H2 => tb { D with nx := Pv (i + 1), ct := Pv (i + 1), bk := D.nx } σ2 H2) (hd : ∀ σ H, Pv xs.length σ H → D.nx σ H) :
    ∃ W : Nat → Nat → St → Hp → Prop, (∃ m, W 0 m σ H) ∧ ∀ i m σ H, W i m σ H →
      ((Itl K a).stop i H ∧ D.nx σ H) ∨ ((Itl K a).go i H ∧ ∃ N : St → Hp → Prop, (∀ σ' H', N σ' H' → ∃ m', m' < m ∧ W (i + 1) m' σ' H') ∧ ∀ x H', (Itl K a).yld i H x H' → g x σ H' fun σ2 H2 => tb { D with nx := N, ct := N, bk := D.nx } σ2 H2) := by
  refine ⟨fun i m σ H => m = xs.length - i ∧ i ≤ xs.length ∧ Pv i σ H, ⟨xs.length, by simp, Nat.zero_le _, h0⟩, ?_⟩
  rintro i m σ H ⟨rfl, hi, p⟩
  have q := hl i σ H hi p
  by_cases hlt : i < xs.length
  · refine .inr ⟨⟨xs, xs[i], q, by simp [hlt]⟩, Pv (i + 1), fun σ' H' p' => ⟨xs.length - (i + 1), by omega, rfl, hlt, p'⟩, fun x H' y => ?_⟩
    obtain ⟨e, y⟩ := y
    subst e
    exact hs i x σ _ (y xs q) p
  · have e : i = xs.length := by omega
    subst e
    exact .inl ⟨⟨xs, q, Nat.le_refl _⟩, hd σ H p⟩
theorem for_tup {K : PySem.W.Frag} {a : Addr} {xs : List V} {g : TG} {tb : TS} {D : Ends} {σ : St} {H : Hp} (Pv : Nat → St → Hp → Prop) (h0 : Pv 0 σ H) (hl : ∀ i σ H, i ≤ xs.length → Pv i σ H → SqT K H a xs)
    (hs : ∀ i x σ H, xs[i]? = some x → Pv i σ H → g x σ H fun σ2 H2 => tb { D with nx := Pv (i + 1), ct := Pv (i + 1), bk := D.nx } σ2 H2) (hd : ∀ σ H, Pv xs.length σ H → D.nx σ H) :
    ∃ W : Nat → Nat → St → Hp → Prop, (∃ m, W 0 m σ H) ∧ ∀ i m σ H, W i m σ H →
      ((Itt K a).stop i H ∧ D.nx σ H) ∨ ((Itt K a).go i H ∧ ∃ N : St → Hp → Prop, (∀ σ' H', N σ' H' → ∃ m', m' < m ∧ W (i + 1) m' σ' H') ∧ ∀ x H', (Itt K a).yld i H x H' → g x σ H' fun σ2 H2 => tb { D with nx := N, ct := N, bk := D.nx } σ2 H2) := by
  refine ⟨fun i m σ H => m = xs.length - i ∧ i ≤ xs.length ∧ Pv i σ H, ⟨xs.length, by simp, Nat.zero_le _, h0⟩, ?_⟩
  rintro i m σ H ⟨rfl, hi, p⟩
  have q := hl i σ H hi p
  by_cases hlt : i < xs.length
  · refine .inr ⟨⟨xs, xs[i], q, by simp [hlt]⟩, Pv (i + 1), fun σ' H' p' => ⟨xs.length - (i + 1), by omega, rfl, hlt, p'⟩, fun x H' y => ?_⟩
    obtain ⟨e, y⟩ := y
    subst e
    exact hs i x σ _ (y xs q) p
  · have e : i = xs.length := by omega
    subst e
    exact .inl ⟨⟨xs, q, Nat.le_refl _⟩, hd σ H p⟩
theorem for_range {lo : Int} {n : Nat} {g : TG} {tb : TS} {D : Ends} {σ : St} {H : Hp} (Pv : Nat → St → Hp → Prop) (h0 : Pv 0 σ H)
    (hs : ∀ i σ H, i < n → Pv i σ H → g (.int (lo + i)) σ H fun σ2 H2 => tb { D with nx := Pv (i + 1), ct := Pv (i + 1), bk := D.nx } σ2 H2) (hd : ∀ σ H, Pv n σ H → D.nx σ H) :
    ∃ W : Nat → Nat → St → Hp → Prop, (∃ m, W 0 m σ H) ∧ ∀ i m σ H, W i m σ H →
      ((Itr lo n).stop i H ∧ D.nx σ H) ∨ ((Itr lo n).go i H ∧ ∃ N : St → Hp → Prop, (∀ σ' H', N σ' H' → ∃ m', m' < m ∧ W (i + 1) m' σ' H') ∧ ∀ x H', (Itr lo n).yld i H x H' → g x σ H' fun σ2 H2 => tb { D with nx := N, ct := N, bk := D.nx } σ2 H2) := by
  refine ⟨fun i m σ H => m = n - i ∧ i ≤ n ∧ Pv i σ H, ⟨n, by simp, Nat.zero_le _, h0⟩, ?_⟩
  rintro i m σ H ⟨rfl, hi, p⟩
  by_cases hlt : i < n
  · refine .inr ⟨hlt, Pv (i + 1), fun σ' H' p' => ⟨n - (i + 1), by omega, rfl, hlt, p'⟩, fun x H' y => ?_⟩
    obtain ⟨e, y⟩ := y
    subst e y
    exact hs i σ _ hlt p
  · have e : i = n := by omega
    subst e
    exact .inl ⟨Nat.le_refl _, hd σ H p⟩
end L2

namespace L2
open PySem PySem.Spec PyProof.Rows

abbrev R2 := V → V → Hp → VK → Prop
/-- a two-place operation on values: f is binaryOp op, inplaceOp op or compareOp op -/
def OpR (X : Cx) (f : Value → Value → Sem Value) (r : R2) : Prop :=
  ∀ (pins : List (Addr × Obj)) (s : Shared) (σ : St) (H : Hp) (x y : V) (v u : Value) (Q : VK), Inv X pins σ H s → RelV x v → RelV y u → r x y H Q →
    wpAny (model X.prog X.w) X.A (f v u) (EP X pins σ Q) X.xe s
/-- a call of a value that is known (a builtin, a type) with values -/
def CallR (X : Cx) (f : Value) (r : List V → Hp → VK → Prop) : Prop :=
  ∀ (pins : List (Addr × Obj)) (s : Shared) (σ : St) (H : Hp) (xs : List V) (us : List Value) (Q : VK), Inv X pins σ H s → Vals xs us → r xs H Q →
    wpAny (model X.prog X.w) X.A (call f us) (EP X pins σ Q) X.xe s
def tOp (r : R2) (ta tb : TE) : TE := fun σ H Q => ta σ H fun x H1 => tb σ H1 fun y H2 => r x y H2 Q
def tUn (r : V → Hp → VK → Prop) (ta : TE) : TE := fun σ H Q => ta σ H fun x H1 => r x H1 Q
/-- ints in, under C, and a value out -/
def rI (C : Int → Int → Prop) (g : Int → Int → V) : R2 := fun x y H Q => ∃ i j, x = .int i ∧ y = .int j ∧ C i j ∧ Q (g i j) H
def rI0 (g : Int → Int → V) : R2 := fun x y H Q => ∃ i j, x = .int i ∧ y = .int j ∧ Q (g i j) H
def rU (g : Int → V) : V → Hp → VK → Prop := fun x H Q => ∃ i, x = .int i ∧ Q (g i) H

section
variable {X : Cx} {a b c : Expr} {ta tb tc : TE} {pos : Pos}

theorem binT (ha : PE X a ta) (hb : PE X b tb) {pins : List (Addr × Obj)} {s : Shared} {σ : St} {H : Hp} {R : V → V → Hp → Prop} (I : Inv X pins σ H s)
    (h : ta σ H fun x H1 => tb σ H1 fun y H2 => R x y H2) {Q : Value → Shared → Prop} {f : Value → Value → Sem Value}
    (hf : ∀ v u s2 x y H2, Inv X pins σ H2 s2 → RelV x v → RelV y u → R x y H2 → wpAny (model X.prog X.w) X.A (f v u) Q X.xe s2) :
    wpAny (model X.prog X.w) X.A (eval a X.env) (fun v s₁ => wpAny (model X.prog X.w) X.A (eval b X.env) (fun u s₂ => wpAny (model X.prog X.w) X.A (f v u) Q X.xe s₂) X.xe s₁) X.xe s := by
  refine thn (ha pins s σ H _ I h) fun v s1 ⟨x, H1, I1, r1, q1⟩ => ?_
  refine thn (hb pins s1 σ H1 _ I1 q1) fun u s2 ⟨y, H2, I2, r2, q2⟩ => ?_
  exact hf v u s2 x y H2 I2 r1 r2 q2

theorem pe_op {op : Operator} {r : R2} (ho : OpR X (binaryOp op) r) (ha : PE X a ta) (hb : PE X b tb) : PE X (.BinOp a op b pos) (tOp r ta tb) := by
  intro pins s σ H Q I h
  exact wpAny_BinOp (binT ha hb I h fun v u s2 x y H2 I2 rx ry q => ho pins s2 σ H2 x y v u Q I2 rx ry q)
/-! ### ints -/
theorem opI {f : Value → Value → Sem Value} {C : Int → Int → Prop} {g : Int → Int → Int}
    (rule : ∀ (i j : Int) (t u : Tok) (s : Shared) (Q : Value → Shared → Prop) (E : Value → Shared → Prop), C i j → Q (.int (g i j) s.toks) { s with toks := s.toks + 1 } → wpAny (model X.prog X.w) X.A (f (.int i t) (.int j u)) Q E s) :
    OpR X f (rI C fun i j => .int (g i j)) := by
  intro pins s σ H x y v u Q I rx ry h
  obtain ⟨i, j, rfl, rfl, hc, q⟩ := h
  obtain ⟨t, rfl⟩ := rx
  obtain ⟨t', rfl⟩ := ry
  exact rule i j t t' s _ _ hc ⟨.int (g i j), H, I.tok _, ⟨_, rfl⟩, q⟩
theorem opI0 {f : Value → Value → Sem Value} {g : Int → Int → Int}
    (rule : ∀ (i j : Int) (t u : Tok) (s : Shared) (Q : Value → Shared → Prop) (E : Value → Shared → Prop), Q (.int (g i j) s.toks) { s with toks := s.toks + 1 } → wpAny (model X.prog X.w) X.A (f (.int i t) (.int j u)) Q E s) :
    OpR X f (rI0 fun i j => .int (g i j)) := by
  intro pins s σ H x y v u Q I rx ry h
  obtain ⟨i, j, rfl, rfl, q⟩ := h
  obtain ⟨t, rfl⟩ := rx
  obtain ⟨t', rfl⟩ := ry
  exact rule i j t t' s _ _ ⟨.int (g i j), H, I.tok _, ⟨_, rfl⟩, q⟩
theorem opB0 {f : Value → Value → Sem Value} {g : Int → Int → Bool}
    (rule : ∀ (i j : Int) (t u : Tok) (s : Shared) (Q : Value → Shared → Prop) (E : Value → Shared → Prop), Q (.bool (g i j)) s → wpAny (model X.prog X.w) X.A (f (.int i t) (.int j u)) Q E s) :
    OpR X f (rI0 fun i j => .bl (g i j)) := by
  intro pins s σ H x y v u Q I rx ry h
  obtain ⟨i, j, rfl, rfl, q⟩ := h
  obtain ⟨t, rfl⟩ := rx
  obtain ⟨t', rfl⟩ := ry
  exact rule i j t t' s _ _ ⟨.bl (g i j), H, I, rfl, q⟩

def CMul (i j : Int) : Prop := (-(2 ^ 64) < i ∧ i < 2 ^ 64) ∨ (-(2 ^ 64) < j ∧ j < 2 ^ 64)
theorem CMul.ok {i j : Int} (h : CMul i j) : IntMulOk i j := by
  rcases h with ⟨h1, h2⟩ | ⟨h1, h2⟩
  · exact .of_left (intBits_le_64 h1 h2)
  · exact .of_right (intBits_le_64 h1 h2)
theorem op_add : OpR X (binaryOp .Add) (rI0 fun i j => .int (i + j)) := opI0 fun _ _ _ _ _ _ _ q => add_int q
theorem op_sub : OpR X (binaryOp .Sub) (rI0 fun i j => .int (i - j)) := opI0 fun _ _ _ _ _ _ _ q => sub_int q
theorem op_mul : OpR X (binaryOp .Mult) (rI CMul fun i j => .int (i * j)) := opI fun _ _ _ _ _ _ _ hc q => mul_int q hc.ok
/-- % by a positive divisor of any size -/
theorem op_mod : OpR X (binaryOp .Mod) (rI (fun _ j => 0 < j) fun i j => .int (i % j)) := opI fun i j _ _ _ _ _ hc q => by
  have h1 : (0 : Int) < j := hc
  exact mod_int' (by omega) (by rw [Int.fmod_eq_emod_of_nonneg i (by omega)]; exact q)
/-! ### bools among ints: n += (a < b) -/
end

/-! ### comparisons -/
/-- the scalars that == tells apart as data does -/
def scal : V → V → Bool
  | .non, .non => true | .non, .int _ => true | .int _, .non => true | .non, .bl _ => true | .bl _, .non => true | .non, .str _ => true | .str _, .non => true
  | .int _, .int _ => true | .bl _, .bl _ => true | .str _, .str _ => true | .byt _, .byt _ => true
  | .int _, .str _ => true | .str _, .int _ => true | .bl _, .str _ => true | .str _, .bl _ => true
  | _, _ => false
def rEq : R2 := fun x y H Q => scal x y = true ∧ Q (.bl (decide (x = y))) H
def rNe : R2 := fun x y H Q => scal x y = true ∧ Q (.bl (!decide (x = y))) H

theorem dec_int {i j : Int} : decide (V.int i = V.int j) = (i == j) := by
  rw [Bool.eq_iff_iff]
  simp
theorem dec_bl {i j : Bool} : decide (V.bl i = V.bl j) = (i == j) := by
  rw [Bool.eq_iff_iff]
  simp
theorem dec_str {i j : Str} : decide (V.str i = V.str j) = (i == j) := by
  rw [Bool.eq_iff_iff]
  simp
theorem dec_byt {i j : Array UInt8} : decide (V.byt i = V.byt j) = (i.toList == j.toList) := by
  rw [Bool.eq_iff_iff]
  cases i
  cases j
  simp

section
variable {X : Cx} {a b c : Expr} {ta tb tc : TE} {pos : Pos}
theorem fin_bl {pins : List (Addr × Obj)} {σ : St} {H : Hp} {s : Shared} {Q : VK} {k k' : Bool} (I : Inv X pins σ H s) (q : Q (.bl k) H) (e : k = k') : EP X pins σ Q (.bool k') s := by
  subst e
  exact ⟨.bl k, H, I, rfl, q⟩
theorem op_eq : OpR X (compareOp .Eq) rEq := by
  intro pins s σ H x y v u Q I rx ry h
  obtain ⟨hs, q⟩ := h
  cases x with
  | non =>
    cases rx
    cases y with
    | non => cases ry; exact PySem.EqNone.eq_none_none (fin_bl I q (by simp))
    | bl j => cases ry; exact PySem.EqNone.eq_none_bool (fin_bl I q (by simp))
    | int j => obtain ⟨t', rfl⟩ := ry; exact PySem.EqNone.eq_none_int (fin_bl I q (by simp))
    | str j => obtain ⟨t', rfl⟩ := ry; exact PySem.EqNone.eq_none_str (fin_bl I q (by simp))
    | _ => exact absurd (show false = true from hs) Bool.false_ne_true
  | bl i =>
    cases rx
    cases y with
    | non => cases ry; exact PySem.EqNone.eq_bool_none (fin_bl I q (by simp))
    | bl j => cases ry; exact eq_bool (fin_bl I q dec_bl)
    | str j => obtain ⟨t', rfl⟩ := ry; exact PySem.EqMixed.eq_bool_str (fin_bl I q (by simp))
    | _ => exact absurd (show false = true from hs) Bool.false_ne_true
  | int i =>
    obtain ⟨t, rfl⟩ := rx
    cases y with
    | non => cases ry; exact PySem.EqNone.eq_int_none (fin_bl I q (by simp))
    | int j => obtain ⟨t', rfl⟩ := ry; exact eq_int (fin_bl I q dec_int)
    | str j => obtain ⟨t', rfl⟩ := ry; exact PySem.EqMixed.eq_int_str (fin_bl I q (by simp))
    | _ => exact absurd (show false = true from hs) Bool.false_ne_true
  | str i =>
    obtain ⟨t, rfl⟩ := rx
    cases y with
    | non => cases ry; exact PySem.EqNone.eq_str_none (fin_bl I q (by simp))
    | bl j => cases ry; exact PySem.EqMixed.eq_str_bool (fin_bl I q (by simp))
    | int j => obtain ⟨t', rfl⟩ := ry; exact PySem.EqMixed.eq_str_int (fin_bl I q (by simp))
    | str j => obtain ⟨t', rfl⟩ := ry; exact eq_str (fin_bl I q dec_str)
    | _ => exact absurd (show false = true from hs) Bool.false_ne_true
  | byt i =>
    obtain ⟨t, rfl⟩ := rx
    cases y with
    | byt j => obtain ⟨t', rfl⟩ := ry; exact PySem.W.eq_bytes (fin_bl I q dec_byt)
    | _ => exact absurd (show false = true from hs) Bool.false_ne_true
  | _ => cases y <;> exact absurd (show false = true from hs) Bool.false_ne_true
theorem op_ne : OpR X (compareOp .NotEq) rNe := by
  intro pins s σ H x y v u Q I rx ry h
  obtain ⟨hs, q⟩ := h
  cases x with
  | non =>
    cases rx
    cases y with
    | non => cases ry; exact PySem.EqNone.ne_none_none (fin_bl I q (by simp))
    | bl j => cases ry; exact PySem.EqNone.ne_none_bool (fin_bl I q (by simp))
    | int j => obtain ⟨t', rfl⟩ := ry; exact PySem.EqNone.ne_none_int (fin_bl I q (by simp))
    | str j => obtain ⟨t', rfl⟩ := ry; exact PySem.EqNone.ne_none_str (fin_bl I q (by simp))
    | _ => exact absurd (show false = true from hs) Bool.false_ne_true
  | bl i =>
    cases rx
    cases y with
    | non => cases ry; exact PySem.EqNone.ne_bool_none (fin_bl I q (by simp))
    | bl j => cases ry; exact ne_bool (fin_bl I q (congrArg not dec_bl))
    | str j => obtain ⟨t', rfl⟩ := ry; exact PySem.EqMixed.ne_bool_str (fin_bl I q (by simp))
    | _ => exact absurd (show false = true from hs) Bool.false_ne_true
  | int i =>
    obtain ⟨t, rfl⟩ := rx
    cases y with
    | non => cases ry; exact PySem.EqNone.ne_int_none (fin_bl I q (by simp))
    | int j => obtain ⟨t', rfl⟩ := ry; exact ne_int (fin_bl I q (congrArg not dec_int))
    | str j => obtain ⟨t', rfl⟩ := ry; exact PySem.EqMixed.ne_int_str (fin_bl I q (by simp))
    | _ => exact absurd (show false = true from hs) Bool.false_ne_true
  | str i =>
    obtain ⟨t, rfl⟩ := rx
    cases y with
    | non => cases ry; exact PySem.EqNone.ne_str_none (fin_bl I q (by simp))
    | bl j => cases ry; exact PySem.EqMixed.ne_str_bool (fin_bl I q (by simp))
    | int j => obtain ⟨t', rfl⟩ := ry; exact PySem.EqMixed.ne_str_int (fin_bl I q (by simp))
    | str j => obtain ⟨t', rfl⟩ := ry; exact ne_str (fin_bl I q (congrArg not dec_str))
    | _ => exact absurd (show false = true from hs) Bool.false_ne_true
  | byt i =>
    obtain ⟨t, rfl⟩ := rx
    cases y with
    | byt j => obtain ⟨t', rfl⟩ := ry; exact PySem.W.ne_bytes (fin_bl I q (congrArg not dec_byt))
    | _ => exact absurd (show false = true from hs) Bool.false_ne_true
  | _ => cases y <;> exact absurd (show false = true from hs) Bool.false_ne_true

theorem op_lt : OpR X (compareOp .Lt) (rI0 fun i j => .bl (decide (i < j))) := opB0 fun _ _ _ _ _ _ _ q => lt_int q
theorem op_le : OpR X (compareOp .LtE) (rI0 fun i j => .bl (decide (i ≤ j))) := opB0 fun _ _ _ _ _ _ _ q => le_int q
theorem op_gt : OpR X (compareOp .Gt) (rI0 fun i j => .bl (decide (j < i))) := opB0 fun _ _ _ _ _ _ _ q => gt_int q
/-- two rules for one operation: by cases -/
theorem OpR.or {f : Value → Value → Sem Value} {r r' : R2} (h : OpR X f r) (h' : OpR X f r') : OpR X f (fun x y H Q => r x y H Q ∨ r' x y H Q) := by
  intro pins s σ H x y v u Q I rx ry q
  rcases q with q | q
  · exact h pins s σ H x y v u Q I rx ry q
  · exact h' pins s σ H x y v u Q I rx ry q

theorem nomark (b : Expr) {op : CmpOp} (h : op ≠ .In := by decide) (h2 : op ≠ .NotIn := by decide) : behindInMarks op b = false := by
  have e1 : (op == CmpOp.In) = false := by cases op <;> first | rfl | exact absurd rfl h
  have e2 : (op == CmpOp.NotIn) = false := by cases op <;> first | rfl | exact absurd rfl h2
  cases b <;> simp [behindInMarks, e1, e2]
/-- a comparison as a value; hm: nomark b, or (for in, not in) by with_unfolding_all rfl -/
theorem pe_cmpR {op : CmpOp} {r : R2} (ho : OpR X (compareOp op) r) (ha : PE X a ta) (hb : PE X b tb) (hm : behindInMarks op b = false) : PE X (.Compare a [op] [b] pos) (tOp r ta tb) := by
  intro pins s σ H Q I h
  exact wpAny_Compare1 (binT ha hb I h fun v u s2 x y H2 I2 rx ry q => ho pins s2 σ H2 x y v u Q I2 rx ry q) hm
/-- a reading of a value as a test -/
def tTest (t : TE) : TT := fun σ H Q => t σ H fun x H' => ∃ k, x = .bl k ∧ Q k H'
theorem pt_cmpR {op : CmpOp} {r : R2} (ho : OpR X (compareOp op) r) (ha : PE X a ta) (hb : PE X b tb) (hm : behindInMarks op b = false) : PT X (.Compare a [op] [b] pos) (tTest (tOp r ta tb)) := by
  intro pins s σ H Q I h
  refine wpAny_isTrue_Compare1 (thn (ha pins s σ H _ I h) fun v s1 ⟨x, H1, I1, r1, q1⟩ => thn (hb pins s1 σ H1 _ I1 q1) fun u s2 ⟨y, H2, I2, r2, q2⟩ =>
    thn (ho pins s2 σ H2 x y v u _ I2 r1 r2 q2) fun c s3 ⟨z, H3, I3, r3, k, e, q3⟩ => ?_) hm
  subst e
  cases r3
  exact wpAny_truthy_bool ⟨H3, I3, q3⟩
/-! ### truth -/
theorem line63 : (sizeLine : Nat) < 2 ^ 63 := by rw [sizeLine_eq]; decide
/-! ### strs and bytes -/
/-! ### scalar builtins, by CallR -/
theorem vals1 {x : V} {us : List Value} (r : Vals [x] us) : ∃ u, us = [u] ∧ RelV x u := by
  cases r with
  | cons r1 r2 => cases r2; exact ⟨_, rfl, r1⟩
theorem vals2 {x y : V} {us : List Value} (r : Vals [x, y] us) : ∃ u w', us = [u, w'] ∧ RelV x u ∧ RelV y w' := by
  cases r with
  | cons r1 r2 =>
    cases r2 with
    | cons r3 r4 => cases r4; exact ⟨_, _, rfl, r1, r3⟩
theorem call_min2 (hc : X.calm = true) : CallR X (.builtin "min") (fun xs H Q => ∃ i j, xs = [.int i, .int j] ∧ Q (.int (if j < i then j else i)) H) := by
  intro pins s σ H xs us Q I r h
  obtain ⟨i, j, rfl, q⟩ := h
  obtain ⟨u, w', rfl, ⟨t, rfl⟩, ⟨t', rfl⟩⟩ := vals2 r
  refine min_two_ints (I.ok.hd hc) fun h' tk k => ⟨_, H, I.kept k, ?_, q⟩
  by_cases hj : j < i
  · rw [if_pos hj, if_pos hj]; exact ⟨_, rfl⟩
  · rw [if_neg hj, if_neg hj]; exact ⟨_, rfl⟩
theorem call_int1 : CallR X (.type "int") (fun xs H Q => (∃ i, xs = [.int i] ∧ Q (.int i) H) ∨ ∃ k, xs = [.bl k] ∧ Q (.int (if k then 1 else 0)) H) := by
  intro pins s σ H xs us Q I r h
  rcases h with ⟨i, rfl, q⟩ | ⟨k, rfl, q⟩
  · obtain ⟨u, rfl, t, rfl⟩ := vals1 r
    exact call_int_int ⟨.int i, H, I, ⟨_, rfl⟩, q⟩
  · obtain ⟨u, rfl, r1⟩ := vals1 r
    cases r1
    exact call_int_bool ⟨.int (if k then 1 else 0), H, I.tok _, ⟨_, rfl⟩, q⟩
end
end L2

namespace L2
open PySem PySem.Spec PyProof.Rows

/-! ### an instance, its attributes a map -/
structure ObjM (h : Heap) (x dx C : Addr) (mA : Str → Option Value) : Prop where
  obj : h.get? x = some (PySem.W.instObj C dx)
  ns : h.Ns1 dx mA
  ne : dx ≠ x

theorem lookIn_ns {h : Heap} {dx : Addr} {mA : Str → Option Value} (n : h.Ns1 dx mA) : ∃ od, h.get? dx = some od ∧ ∀ name, PySem.W.lookIn name od = some (mA name) := by
  obtain ⟨o, es, ep, ho, hd, hk, _, hm⟩ := n
  refine ⟨o, ho, fun name => ?_⟩
  have e := hm name
  unfold nsFind findBy at e
  rw [← Array.find?_toList] at e
  unfold PySem.W.lookIn
  rw [hd]
  dsimp only
  split
  · rename_i y q
    rw [q] at e
    exact congrArg some e
  · rename_i q
    rw [q] at e
    have a : es.toList.any (·.refKey) = false := by
      rw [List.any_eq_false]
      intro y hy
      obtain ⟨z, t, hkey⟩ := hk y (Array.mem_toList_iff.mp hy)
      simp [DictEntry.refKey, hkey]
    have a' : ¬ es.toList.any (·.refKey) = true := by rw [a]; exact Bool.false_ne_true
    rw [if_neg a']
    exact congrArg some e

theorem ObjM.look {h : Heap} {x dx C : Addr} {mA : Str → Option Value} (I : ObjM h x dx C mA) : ∃ od, PySem.W.InstAt h x (PySem.W.instObj C dx) C (some od) ∧ ∀ name, PySem.W.lookIn name od = some (mA name) :=
  let ⟨od, ho, hl⟩ := lookIn_ns I.ns
  ⟨od, ⟨I.obj, rfl, rfl, ho⟩, hl⟩

section
variable {prog : Program} {w : World} {A : Around} {E : Value → Shared → Prop} {s : Shared} {K : PySem.W.Frag} {x dx C f : Addr} {mA : Str → Option Value} {name : Str} {v : Value}

end

/-! ### the attributes as a list of pairs -/
def putF (f : Str) (v : V) : List (Str × V) → List (Str × V)
  | [] => [(f, v)]
  | (g, x) :: r => if g = f then (g, v) :: r else (g, x) :: putF f v r
theorem RelO.some_of {v : V} {o : Option Value} (r : RelO (some v) o) : ∃ u, o = some u ∧ RelV v u := by
  cases o with
  | none => exact (show False from r).elim
  | some u => exact ⟨u, rfl, r⟩
section
variable {P : Program} {w : World} {H H' : Hp} {h h' : Heap} {a C dx : Addr} {fs fs' : List (Str × V)}
theorem ins_get (hok : HOk P w H h) (e : H a = some (.ins C dx fs)) : ∃ mA, ObjM h a dx C mA ∧ (∀ f, RelO (fs.lookup f) (mA f)) ∧ PySem.Within mA (fs.map (·.1)) ∧ fs.length ≤ 1000 ∧ H dx = some (.own a) := by
  obtain ⟨d, z, ne, ob, mA, n, r, q⟩ := (show ObjOk P w H h a (.ins C dx fs) from hok a _ e)
  exact ⟨mA, ⟨ob, n, ne⟩, r, q, z, d⟩
end

/-! ### what of the text a class must have -/
structure Cls (K : PySem.W.Frag) (C : Addr) : Prop where
  pg : PySem.W.plainGet K C Str.empty = true
  hd : PySem.W.hasDictIn K C = true
  po : PySem.W.plainOver K C = true
  sa : PySem.W.findIn K (.ref C) "__setattr__" = some (some (.builtin "object.__setattr__"))
theorem Cls.get {K : PySem.W.Frag} {C : Addr} (c : Cls K C) (f : Str) : PySem.W.plainGet K C f = true := c.pg
/-- no class of it has the name -/
def NoAttr (K : PySem.W.Frag) (C : Addr) (f : Str) : Prop := PySem.W.findIn K (.ref C) f = some none
/-- a method: a plain def of the class or of one above it -/
structure Meth (K : PySem.W.Frag) (C : Addr) (m : Str) (f : Addr) : Prop where
  at_ : PySem.W.findIn K (.ref C) m = some (some (.ref f))
  fn : PySem.W.isFn K (.ref f) = true
  kp : PySem.W.keepIn K (.ref f) = true

section
variable {X : Cx} {pins : List (Addr × Obj)} {σ : St} {H : Hp} {s : Shared} {a C dx : Addr} {fs : List (Str × V)} {f : Str} {v : V} {A : Around} {E : Value → Shared → Prop}

/-- a new instance, tracked, without attributes -/
theorem Inv.made (I : Inv X pins σ H s) : Inv X pins σ (upd (upd H s.heap.objs.size (.own (s.heap.objs.size + 1))) (s.heap.objs.size + 1) (.ins C s.heap.objs.size []))
    { s with heap := (s.heap.push PySem.W.emptyDict).push (PySem.W.instObj C s.heap.objs.size) } := by
  have e1 : (s.heap.push PySem.W.emptyDict).get? s.heap.objs.size = some PySem.W.emptyDict := Heap.get?_push_size s.heap rfl
  have e2 : ((s.heap.push PySem.W.emptyDict).push (PySem.W.instObj C s.heap.objs.size)).get? (s.heap.objs.size + 1) = some (PySem.W.instObj C s.heap.objs.size) := by
    have := Heap.get?_push_size (s.heap.push PySem.W.emptyDict) (o := PySem.W.instObj C s.heap.objs.size) rfl
    rwa [Heap.size_push] at this
  have e3 : (s.heap.push PySem.W.emptyDict).Ns s.heap.objs.size (fun _ => none) := ⟨PySem.W.emptyDict, #[], _, e1, rfl, (fun e he => absurd he (by simp)), fun _ => rfl⟩
  have I1 := I.laid (a := s.heap.objs.size) (o := .own (s.heap.objs.size + 1)) (h' := s.heap.push PySem.W.emptyDict) (t' := s.toks) (fun b u q => Heap.get?_push_of_some _ q) (Nat.le_refl _) ⟨_, e1⟩
  refine I1.laid (a := s.heap.objs.size + 1) (o := .ins C s.heap.objs.size []) (t' := s.toks) (fun b u q => Heap.get?_push_of_some _ q) (Nat.le_of_eq (Heap.size_push _ _)) ?_
  have ne : s.heap.objs.size ≠ s.heap.objs.size + 1 := Nat.ne_of_lt (Nat.lt_succ_self _)
  refine ⟨by rw [upd_ne ne, upd_same], Nat.zero_le _, ne, e2, fun _ => none, (Heap.Ns1.of_empty e3).at fun o q => Heap.get?_push_of_some _ q, fun _ => True.intro, fun y hy => absurd rfl hy⟩

end

/-! ### readings and rules -/
/-- e.f, an attribute of the instance -/
def tFld (K : PySem.W.Frag) (ta : TE) (f : Str) : TE := fun σ H Q => ta σ H fun x H1 => ∃ a C dx fs v, x = .ref a ∧ H1 a = some (.ins C dx fs) ∧ Cls K C ∧ NoAttr K C f ∧ fs.lookup f = some v ∧ Q v H1
/-- e.f = value -/
def sFld (K : PySem.W.Frag) (ta tv : TE) (f : Str) : TS := fun D σ H => tv σ H fun y H1 => ta σ H1 fun x H2 => ∃ a C dx fs, x = .ref a ∧ H2 a = some (.ins C dx fs) ∧ Cls K C ∧ NoAttr K C f ∧ fs.length < 1000 ∧
  D.nx σ (upd H2 a (.ins C dx (putF f y fs)))
section
variable {X : Cx} {o e value : Expr} {f : Str} {pos pos' tpos : Pos} {ta tv : TE}
end

/-! ### isinstance -/
section
variable {X : Cx} {pins : List (Addr × Obj)} {σ : St} {H : Hp} {s : Shared} {A : Around} {E : Value → Shared → Prop} {Q : Value → Shared → Prop} {c : Value} {b : Bool}
/-- the type of a value, as the fragment's deciders take it; for an instance its class -/
inductive TyOf (K : PySem.W.Frag) (H : Hp) : V → Value → Prop where
  | non : TyOf K H .non (.type "NoneType")
  | bl (x : Bool) : TyOf K H (.bl x) (.type "bool")
  | int (i : Int) : TyOf K H (.int i) (.type "int")
  | str (x : Str) : TyOf K H (.str x) (.type "str")
  | flt (x : UInt64) : TyOf K H (.flt x) (.type "float")
  | lst {a : Addr} {xs : List V} (e : H a = some (.lst xs)) : TyOf K H (.ref a) (.type "list")
  | frz {a : Addr} {o : Obj} {xs : List V} (e : H a = some (.frz o (.lst xs))) : TyOf K H (.ref a) (.type "list")
  | tup {a : Addr} {xs : List V} (e : H a = some (.tup xs)) : TyOf K H (.ref a) (.type "tuple")
  | dK {a : Addr} {kvs : List (Key × V)} (e : H a = some (.dK kvs)) : TyOf K H (.ref a) (.type "dict")
  | dT {a : Addr} {kvs : List (List Key × V)} (e : H a = some (.dT kvs)) : TyOf K H (.ref a) (.type "dict")
  | ins {a C dx : Addr} {fs : List (Str × V)} (e : H a = some (.ins C dx fs)) (cl : Cls K C) (ha : PySem.W.findIn K (.ref C) "__class__" = some (some (.builtin "object.__class__")))
      (hn : PySem.W.specialIn K (.builtin "object.__class__") "__get__" = some (some (.builtin "getset_descriptor.__get__"))) (htk : PySem.W.takesIn K (.builtin "object.__class__") = some true)
      (hm : PySem.W.mroIn K C (.type "object") = some true) : TyOf K H (.ref a) (.ref C)
/-- isinstance(x, c) for one class c, a built-in or an own one: kitOne's answer -/
theorem isinst_ok {x : V} {u t : Value} (I : Inv X pins σ H s) (rx : RelV x u) (ty : TyOf X.K H x t) (e : PySem.W.kitOne X.K t c = some b) (h : ∀ tk, Q (.bool b) { s with toks := tk }) :
    wpAny (model X.prog X.w) A (call (.builtin "isinstance") [u, c]) Q E s := by
  cases ty with
  | non => cases (show u = Value.none from rx); exact PySem.W.kia_one PySem.W.kitx_none I.kIn True.intro e (fun z => nomatch z) h
  | bl y => cases (show u = Value.bool y from rx); exact PySem.W.kia_one PySem.W.kitx_bool I.kIn True.intro e (fun z => nomatch z) h
  | int i => obtain ⟨t, q⟩ := (show ∃ t, u = Value.int i t from rx); cases q; exact PySem.W.kia_one PySem.W.kitx_int I.kIn True.intro e (fun z => nomatch z) h
  | str y => obtain ⟨t, q⟩ := (show ∃ t, u = Value.str y t from rx); cases q; exact PySem.W.kia_one PySem.W.kitx_str I.kIn True.intro e (fun z => nomatch z) h
  | flt y => obtain ⟨t, q⟩ := (show ∃ t, u = Value.float y t from rx); cases q; exact PySem.W.kia_one PySem.W.kitx_float I.kIn True.intro e (fun z => nomatch z) h
  | @lst a xs ea =>
    cases (show u = Value.ref a from rx)
    obtain ⟨_, _, n, _, h1⟩ := (show ObjOk X.prog X.w H s.heap a (.lst xs) from I.hok a _ ea)
    exact PySem.W.kia_one PySem.W.kitx_list I.kIn ⟨_, h1, rfl⟩ e (fun z => nomatch z) h
  | @frz a ob xs ea =>
    cases (show u = Value.ref a from rx)
    obtain ⟨_, _, _, n, _, h1⟩ := (show ObjOk X.prog X.w H s.heap a (.frz ob (.lst xs)) from I.hok a _ ea)
    exact PySem.W.kia_one PySem.W.kitx_list I.kIn ⟨_, h1, rfl⟩ e (fun z => nomatch z) h
  | @tup a xs ea =>
    cases (show u = Value.ref a from rx)
    obtain ⟨_, _, _, p⟩ := (show ObjOk X.prog X.w H s.heap a (.tup xs) from I.hok a _ ea)
    obtain ⟨o, h1, h2, _⟩ := p
    exact PySem.W.kia_one PySem.W.kitx_tuple I.kIn ⟨o, h1, h2⟩ e (fun z => nomatch z) h
  | @dK a kvs ea =>
    cases (show u = Value.ref a from rx)
    obtain ⟨_, _, vs, _, p⟩ := (show ObjOk X.prog X.w H s.heap a (.dK kvs) from I.hok a _ ea)
    obtain ⟨o, es, ep, h1, h2, _⟩ := p
    exact PySem.W.kia_one PySem.W.kitx_dict I.kIn ⟨o, h1, h2.1⟩ e (fun z => nomatch z) h
  | @dT a kvs ea =>
    cases (show u = Value.ref a from rx)
    obtain ⟨_, _, xs, _, o, es, ep, h1, h2, _⟩ := (show ObjOk X.prog X.w H s.heap a (.dT kvs) from I.hok a _ ea)
    exact PySem.W.kia_one PySem.W.kitx_dict I.kIn ⟨o, h1, h2.1⟩ e (fun z => nomatch z) h
  | @ins a C dx fs ea cl ha hn htk hm =>
    cases (show u = Value.ref a from rx)
    obtain ⟨mA, O, _⟩ := ins_get I.hok ea
    obtain ⟨od, J, _⟩ := O.look
    exact PySem.W.kia_one (PySem.W.kitx_own (cl.get _) cl.hd ha hn htk hm) I.kIn J e (fun z => nomatch z) h
end
end L2

namespace L2
open PySem PySem.Spec PyProof.Rows

/-! ### room -/
structure Room (k : Nat) (A : Around) : Prop where
  hd : A.handled = none
  dp : A.depth + 3 * k + 5 < recursionLimit
  un : A.units + 16 * k + 200 < cLine
theorem Room.mono {j k : Nat} {A : Around} (r : Room k A) (h : j ≤ k) : Room j A := ⟨r.hd, by have := r.dp; omega, by have := r.un; omega⟩
theorem Room.deeper {k : Nat} {A : Around} (r : Room (k + 1) A) (env : Env) : Room k (A.deeper env) :=
  ⟨r.hd, by have := r.dp; show A.depth + 1 + 3 * k + 5 < _; omega, by have := r.un; show A.units + 3 + 16 * k + 200 < _; omega⟩
theorem Room.depth {k : Nat} {A : Around} (r : Room k A) : A.depth < recursionLimit := by have := r.dp; omega
theorem Room.units {k : Nat} {A : Around} (r : Room k A) : A.units + 64 < cLine := by have := r.un; omega
/-! ### argument lists and displays -/
def tNil : TA := fun _ H Q => Q [] H
def tCons (ta : TE) (tr : TA) : TA := fun σ H Q => ta σ H fun x H1 => tr σ H1 fun xs H2 => Q (x :: xs) H2
section
variable {X : Cx} {e : Expr} {es : List Expr} {te : TE} {t : TA} {pos : Pos}
theorem pa_nil : PA X [] tNil := fun _ _ _ _ H Q I h => Calls.spliced_nil ⟨[], H, I, .nil, h⟩
theorem pa_cons (ha : PE X e te) (hr : PA X es t) (hs : starEach (e :: es) X.env = (false, eval e X.env) :: starEach es X.env := by rfl) : PA X (e :: es) (tCons te t) := by
  intro pos pins s σ H Q I h
  rw [hs]
  show wpAny _ _ (spliced ((false, eval e X.env) :: backTo pos (starEach es X.env))) _ _ s
  refine Calls.spliced_cons (thn (ha pins s σ H _ I h) fun u s1 ⟨x, H1, I1, r1, q1⟩ => ?_)
  exact thn (hr pos pins s1 σ H1 _ I1 q1) fun us s2 ⟨xs, H2, I2, r2, q2⟩ => ⟨x :: xs, H2, I2, .cons r1 r2, q2⟩

/-- a tuple, a list of written items -/
def tTup (t : TA) : TE := fun σ H Q => t σ H fun xs H1 => xs.length ≤ sizeLine ∧ ∀ p, H1 p = none → Q (.ref p) (upd H1 p (.tup xs))
def tLst (t : TA) : TE := fun σ H Q => t σ H fun xs H1 => xs.length ≤ sizeLine ∧ ∀ p, H1 p = none → Q (.ref p) (upd H1 p (.lst xs))
theorem pe_lst (h : PA X es t) : PE X (.List es pos) (tLst t) := by
  intro pins s σ H Q I hq
  refine wpAny_List_spliced (thn (h pos pins s σ H _ I hq) fun us s1 ⟨xs, H1, I1, r, z, q⟩ => ⟨by rw [← r.length]; exact z, ?_⟩)
  have hf : H1 s1.heap.objs.size = none := I1.hok.fresh (Nat.le_refl _)
  refine ⟨.ref s1.heap.objs.size, upd H1 s1.heap.objs.size (.lst xs), I1.laid (t' := s1.toks) (fun b u e => Heap.get?_push_of_some _ e) (Nat.le_refl _) ?_, rfl, q _ hf⟩
  exact ⟨z, us, 0, r, Heap.get?_push_size _ rfl⟩
end

/-! ### what a def promises -/
/-- a def's promise: the bound arguments in the parameters' order, the heap, the wanted end, the wanted exception -/
abbrev Sp := List V → Hp → VK → XK → Prop
/-- how an exception lies behind a call (file 08 gives it): the callers' frames, abstract heap and state ahead of the call, the wish, the exception, the state -/
abbrev CXT := List Env → Hp → Shared → XK → Value → Shared → Prop

/-- the state at a call -/
structure Env0 (P : Program) (w : World) (K : PySem.W.Frag) (mg : Str → Option Value) (base : Heap) (A : Around) (outer : List Env) (s : Shared) (H : Hp) : Prop where
  frames : A.frames = some outer
  mod : Mod K mg base
  bs : ∀ b o, base.get? b = some o → s.heap.get? b = some o ∧ H b = none
  bsz : base.objs.size ≤ s.heap.objs.size
  funs : s.heap.FunFrames base outer
  frf : ∀ b ∈ frs outer, H b = none
  hok : HOk P w H s.heap
  bare : AllBare s.gens
/-- a call's end -/
def CE (outer : List Env) (P : Program) (w : World) (H : Hp) (s : Shared) (Q : VK) (u : Value) (s' : Shared) : Prop :=
  ∃ v H', s'.os = s.os ∧ AllBare s'.gens ∧ Un (frs outer) [] H H' s.heap s'.heap ∧ HOk P w H' s'.heap ∧ RelV v u ∧ Q v H'
def CR (CX : CXT) (outer : List Env) (P : Program) (w : World) (H : Hp) (s : Shared) (Q : VK) (E : XK) (r : Result) (s' : Shared) : Prop :=
  match r with
  | .ok (.ret u) => CE outer P w H s Q u s'
  | .ok _ => False
  | .error e => CX outer H s E e s'
structure FnOk (P : Program) (w : World) (K : PySem.W.Frag) (mg : Str → Option Value) (base : Heap) (CX : CXT) (k : Nat) (f : Addr) (fd : FuncData) (ps : List Str) (sp : Sp) : Prop where
  len : ∀ vs H Q E, sp vs H Q E → vs.length = ps.length
  run : ∀ (A : Around) (outer : List Env) (s : Shared) (H : Hp) (args : Args) (us : List Value) (vs : List V) (Q : VK) (E : XK), Room k A → Env0 P w K mg base A outer s H → BindsTo s fd args (ps.zip us) → Vals vs us → sp vs H Q E →
    codeAny (model P w) A (.call (.ref f) args) (CR CX outer P w H s Q E) s
theorem FnOk.mono {P : Program} {w : World} {K : PySem.W.Frag} {mg : Str → Option Value} {base : Heap} {CX : CXT} {j k : Nat} {f : Addr} {fd : FuncData} {ps : List Str} {sp : Sp} (F : FnOk P w K mg base CX j f fd ps sp) (h : j ≤ k) :
    FnOk P w K mg base CX k f fd ps sp := ⟨F.len, fun A outer s H args us vs Q E hr => F.run A outer s H args us vs Q E (hr.mono h)⟩
section
variable {X : Cx} {pins : List (Addr × Obj)} {σ : St} {H : Hp} {s s' : Shared}
/-- from a body: what a callee wants -/
theorem Inv.env0 (I : Inv X pins σ H s) : Env0 X.prog X.w X.K X.mg X.base X.A X.stack s H :=
  ⟨I.ok.frames, I.ok.mod, I.bs, Nat.le_trans I.ok.bsz I.sz, I.stack, I.stkFree, I.hok, I.bare⟩
/-- behind a call -/
theorem Inv.after {Q : VK} {u : Value} (I : Inv X pins σ H s) (h : CE X.stack X.prog X.w H s Q u s') : EP X pins σ Q u s' := by
  obtain ⟨v, H', os, bare, un, hok, r, q⟩ := h
  obtain ⟨hh, g, d, t, os'⟩ := s'
  obtain rfl : os' = s.os := os
  exact ⟨v, H', I.call (h' := hh) (g' := g) (d' := d) (t' := t) (ch := []) un hok bare (fun b z => absurd z (by simp)), r, q⟩
end

/-! ### calls -/
/-- f(..): the written arguments, then the defaults dvs; E: what is wanted of an exception -/
def tCall (sp : Sp) (dvs : List V) (E : XK) (t : TA) : TE := fun σ H Q => t σ H fun vs H1 => sp (vs ++ dvs) H1 Q E
/-- o.m(..) of an instance of the class at C -/
def tMeth (C : Addr) (m : Str) (sp : Sp) (dvs : List V) (E : XK) (ta : TE) (t : TA) : TE := fun σ H Q => ta σ H fun x H1 => ∃ a dx fs, x = .ref a ∧ H1 a = some (.ins C dx fs) ∧ fs.lookup m = none ∧
  t σ H1 fun vs H2 => sp (x :: (vs ++ dvs)) H2 Q E
/-- C(..): a new instance and its dict, then __init__ -/
def tMake (C : Addr) (sp : Sp) (dvs : List V) (E : XK) (t : TA) : TE := fun σ H Q => t σ H fun vs H1 => ∀ x dx, H1 x = none → H1 dx = none → dx ≠ x →
  sp (.ref x :: (vs ++ dvs)) (upd (upd H1 dx (.own x)) x (.ins C dx [])) (fun v H2 => v = .non ∧ Q (.ref x) H2) E

/-- how the parameters are bound: us the positional arguments, kw the keywords' values by name, ds the defaults that fill up -/
def Binds (K : PySem.W.Frag) (fd : FuncData) (ps : List Str) (ds : List Value) : Prop :=
  ∀ (s : Shared) (us : List Value), K.In s.heap → (us ++ ds).length = ps.length → BindsTo s fd ⟨us, []⟩ (ps.zip (us ++ ds))
/-- every parameter is given -/
theorem Binds.all {K : PySem.W.Frag} {fd : FuncData} {ps : List Str} (h : ∀ us : List Value, us.length = ps.length → bindArgs fd ⟨us, []⟩ = pure (ps.zip us)) : Binds K fd ps [] := fun s us _ hl => by
  rw [List.append_nil] at hl ⊢
  exact .of_eq (h us hl)

/-- an exception of a callee reaches what this body wants of exceptions -/
def Passes (CX : CXT) (X : Cx) (E : XK) : Prop := ∀ (pins : List (Addr × Obj)) (σ : St) (H : Hp) (s : Shared) (e : Value) (s' : Shared), Inv X pins σ H s → CX X.stack H s E e s' → X.xe e s'

section
variable {X : Cx} {CX : CXT} {k : Nat} {f C : Addr} {fd : FuncData} {ps : List Str} {sp : Sp} {dvs : List V} {ds : List Value} {E : XK} {x m : Str} {p pos apos : Pos} {e o : Expr} {es : List Expr} {ta : TE} {t : TA}

/-- the callee runs -/
theorem run_fn {pins : List (Addr × Obj)} {σ : St} {H : Hp} {s : Shared} {Q : VK} {us : List Value} {vs : List V} (F : FnOk X.prog X.w X.K X.mg X.base CX k f fd ps sp) (hr : Room k X.A) (hb : Binds X.K fd ps ds) (hd : Vals dvs ds) (hx : Passes CX X E)
    (I : Inv X pins σ H s) (r : Vals vs us) (h : sp (vs ++ dvs) H Q E) : wpAny (model X.prog X.w) X.A (call (.ref f) us) (EP X pins σ Q) X.xe s := by
  have r2 : Vals (vs ++ dvs) (us ++ ds) := r.append hd
  have hl : (us ++ ds).length = ps.length := by rw [← r2.length]; exact F.len _ _ _ _ h
  refine wpAny_call (codeAny_mono (F.run X.A X.stack s H ⟨us, []⟩ (us ++ ds) (vs ++ dvs) Q E hr I.env0 (hb s us I.kIn hl) r2 h) fun r s' hq => ?_)
  cases r with
  | error e => exact hx pins σ H s e s' I hq
  | ok fl =>
    cases fl with
    | ret u => exact I.after hq
    | next => exact False.elim hq
    | brk => exact False.elim hq
    | cont => exact False.elim hq

theorem pe_call (F : FnOk X.prog X.w X.K X.mg X.base CX k f fd ps sp) (hr : Room k X.A) (hg : Gl X x) (hm : X.mg x = some (.ref f)) (hk : PySem.W.keepIn X.K (.ref f) = true) (hb : Binds X.K fd ps ds) (hd : Vals dvs ds) (hx : Passes CX X E)
    (ha : PA X (e :: es) t) (hdb : (x == ("__debug__" : Str)) = false := by decide) (he : starEach (e :: es) X.env = (false, eval e X.env) :: starEach es X.env := by rfl) (hpl : (backTo pos (starEach es X.env)).any (·.1) = false := by rfl) :
    PE X (.Call (.Name x p) (e :: es) [] pos) (tCall sp dvs E t) := by
  intro pins s σ H Q I h
  refine wpAny_Call_Name_kw (ld_glob I hg hm ?_ hdb)
  refine PySem.W.callWith_K (h₀ := X.base) I.ok.mod.kin hk (thn (ha pos pins s σ H _ I h) fun us s1 ⟨vs, H1, I1, r, q⟩ => ⟨I1.kIn, ?_⟩) he hpl
  exact run_fn F hr hb hd hx I1 r q
/-- what a class must have to be made -/
structure Mk (K : PySem.W.Frag) (C f : Addr) : Prop where
  makes : PySem.W.makesIn K C = true
  init : PySem.W.findIn K (.ref C) "__init__" = some (some (.ref f))
  fn : PySem.W.isFn K (.ref f) = true
  kp : PySem.W.keepIn K (.ref C) = true

end

/-! ### keywords -/
section
variable {X : Cx} {CX : CXT} {k : Nat} {f C : Addr} {fd : FuncData} {ps ks : List Str} {sp : Sp} {E : XK} {x m : Str} {p pos apos kpos : Pos} {e o : Expr} {es : List Expr} {kws : List Keyword} {te ta : TE} {t tk : TA} {nm : Option Str}
variable {g : List Value → List Value → List Value} {gV : List V → List V → List V}
end

/-! ### a def's body keeps its promise -/
/-- names: the parameters first -/
structure FnScope (N P : List Str) (sc : Scope) : Prop where
  kind : sc.kind = .function
  co : sc.isCoroutine = false
  gen : sc.isGenerator = false
  nd : N.Nodup
  pre : N.take P.length = P
  par : ∀ x ∈ P, sc.names.lookup x = some .local ∨ sc.names.lookup x = some .cell
  nofree : ∀ y ∈ sc.names, y.2 ≠ .free

theorem bindL_out {kindOf : Str → Option NameKind} {x : Str} : ∀ {binds : List (Str × Value)} {m : Str → Option Value}, (∀ v, (x, v) ∉ binds) → bindL kindOf binds m x = m x
  | [], _, _ => rfl
  | (n, v) :: r, m, h => by
    unfold bindL
    rw [bindL_out fun w hw => h w (List.mem_cons_of_mem _ hw)]
    split
    · have : x ≠ n := by rintro rfl; exact h v List.mem_cons_self
      simp [this]
    · rfl
theorem bindC_out {kindOf : Str → Option NameKind} {x : Str} : ∀ {binds : List (Str × Value)} {m : Str → Option Value}, (∀ v, (x, v) ∉ binds) → bindC kindOf binds m x = m x
  | [], _, _ => rfl
  | (n, v) :: r, m, h => by
    unfold bindC
    rw [bindC_out fun w hw => h w (List.mem_cons_of_mem _ hw)]
    split
    · rfl
    · have : x ≠ n := by rintro rfl; exact h v List.mem_cons_self
      simp [this]
theorem bindL_get {kindOf : Str → Option NameKind} {x : Str} {v : Value} : ∀ {P : List Str} {vs : List Value} {i : Nat} {m : Str → Option Value}, P.Nodup → P[i]? = some x → vs[i]? = some v → kindOf x = some .local →
    bindL kindOf (P.zip vs) m x = some v
  | [], _, _, _, _, h, _, _ => by simp at h
  | _ :: _, [], _, _, _, _, h, _ => by simp at h
  | p :: P, w :: vs, 0, m, nd, h1, h2, hk => by
    simp at h1 h2; subst h1; subst h2
    show bindL kindOf ((p, w) :: P.zip vs) m p = _
    unfold bindL
    rw [bindL_out fun v hv => (List.nodup_cons.mp nd).1 (List.of_mem_zip hv).1, if_pos hk]
    simp
  | p :: P, w :: vs, i + 1, m, nd, h1, h2, hk => by
    show bindL kindOf ((p, w) :: P.zip vs) m x = _
    unfold bindL
    exact bindL_get (i := i) (List.nodup_cons.mp nd).2 (by simpa using h1) (by simpa using h2) hk
theorem bindC_get {kindOf : Str → Option NameKind} {x : Str} {v : Value} : ∀ {P : List Str} {vs : List Value} {i : Nat} {m : Str → Option Value}, P.Nodup → P[i]? = some x → vs[i]? = some v → kindOf x ≠ some .local →
    bindC kindOf (P.zip vs) m x = some v
  | [], _, _, _, _, h, _, _ => by simp at h
  | _ :: _, [], _, _, _, _, h, _ => by simp at h
  | p :: P, w :: vs, 0, m, nd, h1, h2, hk => by
    simp at h1 h2; subst h1; subst h2
    show bindC kindOf ((p, w) :: P.zip vs) m p = _
    unfold bindC
    rw [bindC_out fun v hv => (List.nodup_cons.mp nd).1 (List.of_mem_zip hv).1, if_neg hk]
    simp
  | p :: P, w :: vs, i + 1, m, nd, h1, h2, hk => by
    show bindC kindOf ((p, w) :: P.zip vs) m x = _
    unfold bindC
    exact bindC_get (i := i) (List.nodup_cons.mp nd).2 (by simpa using h1) (by simpa using h2) hk

/-- the names' values at the entry -/
def start (N : List Str) (vs : List V) : St := vs.map some ++ List.replicate (N.length - vs.length) none

/-- the context of a def's body, at its entry; an exception leaves the frame, then lies as CX says -/
def cxOf (CX : CXT) (P : Program) (w : World) (K : PySem.W.Frag) (mg : Str → Option Value) (base : Heap) (N : List Str) (qual : Str) (scope : Scope) (f : Addr) (cd : Value) (A : Around) (outer : List Env) (s : Shared) (H : Hp) (E : XK) : Cx where
  prog := P
  w := w
  K := K
  mg := mg
  base := base
  A := A.deeper (envOfC qual scope s.heap.objs.size f cd)
  N := N
  s₀ := s
  H₀ := H
  env := envOfC qual scope s.heap.objs.size f cd
  outer := outer
  stack := envOfC qual scope s.heap.objs.size f cd :: outer
  ex := []
  calm := true
  fn := fun _ => true
  pn := []
  xe := fun e s' => wpAny (model P w) (A.deeper (envOfC qual scope s.heap.objs.size f cd)) (leaving (envOfC qual scope s.heap.objs.size f cd) e) (fun _ s'' => CX outer H s E e s'') (fun e' s'' => CX outer H s E e' s'') s'

theorem cell_has {sc : Scope} {n : Nat} {x : Str} (h : sc.names.lookup x = some .cell) : ∃ c, (cellsFrom n sc.names []).lookup x = some c := by
  have q := PySem.W.cellsFrom_some sc.names n [] (.inl h)
  exact Option.isSome_iff_exists.mp q

theorem inv_start {CX : CXT} {P : Program} {w : World} {K : PySem.W.Frag} {mg : Str → Option Value} {base : Heap} {N ps : List Str} {qual : Str} {scope : Scope} {f : Addr} {cd : Value} {A : Around} {outer : List Env} {s s1 : Shared} {H : Hp} {E : XK} {us : List Value} {vs : List V}
    (S : FnScope N ps scope) (hd : A.handled = none) (e0 : Env0 P w K mg base A outer s H) (hl : vs.length = ps.length) (r : Vals vs us)
    (x : InCallC s s.heap.objs.size (bindL (envOfC qual scope s.heap.objs.size f cd).kindOf (ps.zip us) fun _ => none) (cellsFrom (s.heap.objs.size + 1) scope.names []) (bindC (envOfC qual scope s.heap.objs.size f cd).kindOf (ps.zip us) fun _ => none) s1) :
    Inv (cxOf CX P w K mg base N qual scope f cd A outer s H E) [] (start N vs) H s1 := by
  have hpl : ps.length ≤ N.length := by have := congrArg List.length S.pre; rw [List.length_take] at this; omega
  obtain ⟨h1, tk, rfl, hk⟩ := x.done
  have noA : ∀ b : Addr, b ∉ (cxOf CX P w K mg base N qual scope f cd A outer s H E).ex := fun b z => absurd (show b ∈ ([] : List Addr) from z) (by simp)
  refine ⟨⟨e0.mod, S.kind, rfl, rfl, Nat.le_refl _, fun y z c h1 h2 => ?_, fun y hy => ?_, fun y c _ h => ?_, fun _ => hd, Around.frames_deeper e0.frames, .inr ⟨rfl, rfl⟩, fun b z => absurd z (noA b), e0.bs, e0.bsz, fun b _ _ => noA b, fun b z => absurd z (noA b), e0.funs, e0.frf⟩,
    rfl, e0.bare, Un.kept hk, ⟨_, x.toInCall.ns, fun i y v h1 h2 h3 => ?_⟩, fun y c h => ⟨_, x.cell y c h⟩, e0.hok.fresh (Nat.le_refl _), fun y c h => ?_, fun p hp => absurd (show p ∈ ([] : List (Addr × Obj)) from hp) (by simp), e0.hok.kept hk, ?_⟩
  · exact name_of_addr x.apart (PySem.mem_of_lookup h1) (PySem.mem_of_lookup h2)
  · have hy : scope.names.lookup y = some .cell ∨ scope.names.lookup y = some .free := hy
    rcases hy with hy | hy
    · exact cell_has hy
    · exact absurd rfl (S.nofree _ (PySem.mem_of_lookup hy))
  · exact Nat.le_of_lt (x.above y c (PySem.mem_of_lookup h))
  · have hi : i < vs.length := by
      unfold start at h2
      by_cases hi : i < vs.length
      · exact hi
      · rw [List.getElem?_append_right (by simpa using hi)] at h2
        rw [List.getElem?_replicate] at h2
        split at h2 <;> cases h2
    have ha : vs[i]? = some v := by
      unfold start at h2
      rw [List.getElem?_append_left (by simpa using hi), List.getElem?_map] at h2
      cases e : vs[i]? with
      | none => rw [e] at h2; cases h2
      | some a => rw [e] at h2; cases h2; rfl
    obtain ⟨u, hu, rv⟩ := r.get ha
    have hp : ps[i]? = some y := by
      rw [← S.pre, List.getElem?_take_of_lt (by omega)]; exact h1
    have ndP : ps.Nodup := by rw [← S.pre]; exact S.nd.sublist (List.take_sublist _ _)
    refine ⟨u, rv, ?_⟩
    rcases S.par y (List.mem_of_getElem? hp) with k | k
    · exact .inl ⟨k, bindL_get ndP hp hu k⟩
    · obtain ⟨c, e⟩ := cell_has (n := s.heap.objs.size + 1) k
      refine .inr ⟨.inl k, c, e, ?_⟩
      have q := x.cell y c e
      rw [bindC_get ndP hp hu (by show scope.names.lookup y ≠ _; rw [k]; decide)] at q
      exact q
  · exact e0.hok.fresh (Nat.le_of_lt (x.above y c (PySem.mem_of_lookup h)))
  · unfold start
    show _ = N.length
    rw [List.length_append, List.length_map, List.length_replicate]
    omega

/-- THE RULE: a def (or a method) of the text, by its body. The body's reading t is chosen for each entry; it is run at the parameters' values -/
theorem fn_of {CX : CXT} {P : Program} {w : World} {K : PySem.W.Frag} {mg : Str → Option Value} {base : Heap} {k : Nat} {f : Addr} {name qual : Str} {params : Arguments} {body : List Stmt} {scope : Scope} {dV kV doc pm cdv ct oc : Value} {an od : Option Addr}
    {osl : Array (Option Value)} {N ps : List Str} {sp : Sp} (lk : K.lookup f = some ⟨oc, od, .func (PySem.W.fnOf name qual params body scope dV kV doc pm an cdv ct), osl⟩) (hcd : PySem.W.codeIn K cdv qual = true) (S : FnScope N ps scope)
    (len : ∀ vs H Q E, sp vs H Q E → vs.length = ps.length)
    (hbody : ∀ (A : Around) (outer : List Env) (s : Shared) (H : Hp) (vs : List V) (Q : VK) (E : XK), Room k (A.deeper (envOfC qual scope s.heap.objs.size f cdv)) → sp vs H Q E →
      ∃ t, PSs (cxOf CX P w K mg base N qual scope f cdv A outer s H E) body t ∧ t { nx := fun _ H' => Q .non H', rt := Q } (start N vs) H) :
    FnOk P w K mg base CX (k + 1) f (PySem.W.fnOf name qual params body scope dV kV doc pm an cdv ct) ps sp := by
  refine ⟨len, fun A outer s H args us vs Q E hr e0 hb r hsp => ?_⟩
  have hl := len _ _ _ _ hsp
  have KX : K.In s.heap := e0.mod.kin.keeps fun b o e => (e0.bs b o e).1
  have lim : s.heap.NoLimit := e0.mod.nolimit.keeps fun b o e => (e0.bs b o e).1
  have hkind : ∀ y ∈ ps.zip us, scope.names.lookup y.1 = some .local ∨ (scope.names.lookup y.1 = some .cell ∧ ((cellsFrom (s.heap.objs.size + 1) scope.names []).lookup y.1).isSome = true) := fun ⟨n, v⟩ hy => by
    rcases S.par n (List.of_mem_zip hy).1 with q | q
    · exact .inl q
    · exact .inr ⟨q, PySem.W.cellsFrom_some _ _ _ (.inl q)⟩
  refine codeAny_call_function hr.depth (KX _ _ lk) rfl S.co S.gen rfl (PySem.W.codeRec_of KX hcd) (hb _ _ _ _ ?_)
  refine wpAny_newFunctionEnv_cells S.kind hkind fun env he s1 x => ?_
  subst he
  refine ⟨lim.keeps x.toInCall.keep, codeAny_func ?_⟩
  obtain ⟨t, ht, hq⟩ := hbody A outer s H vs Q E (hr.deeper _) hsp
  have I : Inv (cxOf CX P w K mg base N qual scope f cdv A outer s H E) [] (start N vs) H s1 := inv_start S hr.hd e0 hl r x
  refine wpAny_mono (ht [] s1 (start N vs) H _ I hq) (fun fl s' hs => ?_) fun e s' hs => hs
  have fin : ∀ {σ' : St} {H' : Hp} {v : V} {u : Value}, Inv (cxOf CX P w K mg base N qual scope f cdv A outer s H E) [] σ' H' s' → RelV v u → Q v H' → CE outer P w H s Q u s' :=
    fun {σ' H' v u} J rv q => ⟨v, H', J.os, J.bare, J.base, J.hok, rv, q⟩
  cases fl with
  | ret u =>
    obtain ⟨v, σ', H', J, rv, q⟩ := hs
    exact fin J rv q
  | next =>
    obtain ⟨σ', H', J, q⟩ := hs
    exact fin (v := V.non) (u := Value.none) J rfl q
  | brk =>
    obtain ⟨_, _, _, q⟩ := hs
    exact False.elim q
  | cont =>
    obtain ⟨_, _, _, q⟩ := hs
    exact False.elim q
end L2

namespace L2
open PySem PySem.Spec PyProof.Rows
section
variable {X : Cx} {x : Str} {p pos : Pos} {e : Expr} {es : List Expr} {t : TA} {id T : String} {r : List V → Hp → VK → Prop}

def tCB (r : List V → Hp → VK → Prop) (t : TA) : TE := fun σ H Q => t σ H fun vs H1 => r vs H1 Q
/-- f(e, ..), f a built-in function -/
theorem pe_callB (hc : CallR X (.builtin id) r) (hg : Gl X x) (hm : X.mg x = none) (hv : bootBuiltins x = some (.builtin id)) (ha : PA X (e :: es) t) (hn : x ≠ "__name__" := by decide) (hdb : (x == ("__debug__" : Str)) = false := by decide)
    (he : starEach (e :: es) X.env = (false, eval e X.env) :: starEach es X.env := by rfl) (hpl : (backTo pos (starEach es X.env)).any (·.1) = false := by rfl) : PE X (.Call (.Name x p) (e :: es) [] pos) (tCB r t) := by
  intro pins s σ H Q I h
  refine wpAny_Call_Name_kw (ld_blt I hg hm hv ?_ hn hdb)
  exact PyProof.Rows.callWith_builtin1 (thn (ha pos pins s σ H _ I h) fun us s1 ⟨vs, H1, I1, r1, q1⟩ => hc pins s1 σ H1 vs us Q I1 r1 q1) he hpl
/-- T(e, ..), T a built-in type -/
theorem pe_callTy (hc : CallR X (.type T) r) (hg : Gl X x) (hm : X.mg x = none) (hv : bootBuiltins x = some (.type T)) (ha : PA X (e :: es) t) (hn : x ≠ "__name__" := by decide) (hdb : (x == ("__debug__" : Str)) = false := by decide)
    (he : starEach (e :: es) X.env = (false, eval e X.env) :: starEach es X.env := by rfl) (hpl : (backTo pos (starEach es X.env)).any (·.1) = false := by rfl) : PE X (.Call (.Name x p) (e :: es) [] pos) (tCB r t) := by
  intro pins s σ H Q I h
  refine wpAny_Call_Name_kw (ld_blt I hg hm hv ?_ hn hdb)
  exact PyProof.Rows.callWith_type1 (thn (ha pos pins s σ H _ I h) fun us s1 ⟨vs, H1, I1, r1, q1⟩ => hc pins s1 σ H1 vs us Q I1 r1 q1) he hpl
end
end L2

namespace HT
open PySem PyProof.Rows

section
open PySem.SeqAt
open PySem.AutoSeq1 (wpAny_loadPart')
open PySem.MeetsSeq PySem.MeetsSeq2 PySem.MeetsSeq3

end

section
variable {prog : Program} {w : World} {A : Around} {E : Value → Shared → Prop} {s : Shared}

/-! ### t[a:b], not the whole -/
/-- a slice's bound as a place among n (d where it is left out) -/
def sIx (n d : Nat) : Option Int → Nat
  | none => d
  | some v => if v < 0 then (v + (n : Int)).toNat else min v.toNat n
theorem sIx_none (n d : Nat) : sIx n d none = d := rfl
theorem sIx_nat (n d k : Nat) : sIx n d (some (k : Int)) = min k n := by
  show (if (k : Int) < 0 then ((k : Int) + (n : Int)).toNat else min (k : Int).toNat n) = min k n
  rw [if_neg (by omega), Int.toNat_natCast]
theorem sIx_le (n d : Nat) (hd : d ≤ n) (o : Option Int) : sIx n d o ≤ n := by
  cases o with
  | none => exact hd
  | some v =>
    show (if v < 0 then (v + (n : Int)).toNat else min v.toNat n) ≤ n
    by_cases hv : v < 0
    · rw [if_pos hv]; omega
    · rw [if_neg hv]; exact Nat.min_le_right _ _
theorem clip_eq (v : Int) (n d : Nat) : (if v < 0 then max (v + (n : Int)) 0 else min v (n : Int)) = ((sIx n d (some v) : Nat) : Int) := by
  show (if v < 0 then max (v + (n : Int)) 0 else min v (n : Int)) = (((if v < 0 then (v + (n : Int)).toNat else min v.toNat n) : Nat) : Int)
  by_cases hv : v < 0
  · simp only [if_pos hv]; omega
  · simp only [if_neg hv]; omega
theorem adjust_gen (lo hi : Option Int) (n : Nat) : Builtin.Slice.sliceAdjust lo hi 1 (n : Int) = (((sIx n 0 lo : Nat) : Int), ((sIx n n hi : Nat) : Int)) := by
  have h1 : ¬ ((1 : Int) < 0) := by omega
  unfold Builtin.Slice.sliceAdjust
  simp only [h1, if_false]
  refine Prod.ext ?_ ?_
  · cases lo with
    | none => rfl
    | some v => exact clip_eq v n 0
  · cases hi with
    | none => rfl
    | some v => exact clip_eq v n n
theorem places_gen (i j : Nat) : Builtin.Slice.slicePlaces (i : Int) (j : Int) 1 = j - i := by
  unfold Builtin.Slice.slicePlaces
  have h1 : (1 : Int) > 0 := by omega
  simp only [h1, if_true, Int.ediv_one]
  split <;> omega
theorem slicePart_ {v : Value} {o : Option Int} {Q : Option Int → Shared → Prop} (p : IsPart v o) (h : Q o s) : wpAny (model prog w) A (Builtin.Slice.slicePartIndex v) Q E s := by
  cases p with
  | none => exact slicePart_none h
  | int i t => exact slicePart_int h
theorem sliceApplied_gen {sl : Addr} {vl vu : Value} {lo hi : Option Int} {n : Nat} {Q : Int × Int × Nat → Shared → Prop} (hs : s.heap.IsSliceOf sl vl vu .none) (pl : IsPart vl lo) (pu : IsPart vu hi)
    (h : Q (((sIx n 0 lo : Nat) : Int), 1, sIx n n hi - sIx n 0 lo) s) : wpAny (model prog w) A (Builtin.Slice.sliceApplied (.ref sl) (pure (n : Int))) Q E s := by
  obtain ⟨os, hos, hcs, hds⟩ := id hs
  unfold Builtin.Slice.sliceApplied Builtin.Slice.sliceFields
  refine wpAny_bind (wpAny_bind (wpAny_field hos hds (x := vl) rfl (wpAny_bind (wpAny_field hos hds (x := vu) rfl (wpAny_bind (wpAny_field hos hds (x := .none) rfl (wpAny_pure ?_)))))))
  refine wpAny_bind (slicePart_none ?_)
  show wpAny _ _ (if ((1 : Int) == 0) = true then _ else _) _ _ s
  rw [if_neg (by decide)]
  refine wpAny_bind (slicePart_ pl (wpAny_bind (slicePart_ pu (wpAny_bind (wpAny_pure ?_)))))
  show wpAny _ _ (match Builtin.Slice.sliceAdjust lo hi 1 (n : Int) with | (lo, hi) => pure (lo, (1 : Int), Builtin.Slice.slicePlaces lo hi 1)) _ _ s
  rw [adjust_gen lo hi n]
  show wpAny _ _ (pure (((sIx n 0 lo : Nat) : Int), (1 : Int), Builtin.Slice.slicePlaces ((sIx n 0 lo : Nat) : Int) ((sIx n n hi : Nat) : Int) 1)) _ _ s
  rw [places_gen]
  exact wpAny_pure h
theorem pick_gen (xs : Array Value) (i k : Nat) : ((List.range k).filterMap fun (m : Nat) => xs[((i : Int) + (m : Int) * 1).toNat]?).toArray = ((xs.toList.drop i).take k).toArray := by
  have e : (fun (m : Nat) => xs[((i : Int) + (m : Int) * 1).toNat]?) = fun m => xs[i + m]? := by
    funext m
    have : ((i : Int) + (m : Int) * 1).toNat = i + m := by omega
    rw [this]
  rw [e]
  have := pick_run xs i k
  rw [List.filterMap_map] at this
  have e2 : ((fun x => xs[x]?) ∘ fun x => i + x) = fun m => xs[i + m]? := rfl
  rw [e2] at this
  rw [this]

theorem getItem_tuple_cut {t sl : Addr} {items : Array Value} {vl vu : Value} {lo hi : Option Int} {Q : Value → Shared → Prop} (ht : IsTup s.heap t items) (hs : s.heap.IsSliceOf sl vl vu .none) (pl : IsPart vl lo) (pu : IsPart vu hi)
    (hw : ¬ (sIx items.size 0 lo = 0 ∧ sIx items.size items.size hi = items.size))
    (h : Q (.ref s.heap.objs.size) { s with heap := s.heap.push { cls := .type "tuple", data := .seq ((items.toList.drop (sIx items.size 0 lo)).take (sIx items.size items.size hi - sIx items.size 0 lo)).toArray } })
    (hsz : items.size ≤ sizeLine) : wpAny (model prog w) A (getItem (.ref t) (.ref sl)) Q E s := by
  have htake : sizeOk (.seq ((items.toList.drop (sIx items.size 0 lo)).take (sIx items.size items.size hi - sIx items.size 0 lo)).toArray) := by
    show ((items.toList.drop (sIx items.size 0 lo)).take (sIx items.size items.size hi - sIx items.size 0 lo)).toArray.size ≤ sizeLine
    rw [List.size_toArray, List.length_take, List.length_drop, Array.length_toList]
    omega
  have hj : sIx items.size items.size hi ≤ items.size := sIx_le _ _ (Nat.le_refl _) hi
  obtain ⟨os, hos, hcs, hds⟩ := id hs
  have hTs : s.TypeIs (.ref sl) "slice" := ⟨os, hos, hcs⟩
  unfold getItem
  try with_reducible refine wpAny_holding ?_
  first | refine wpAny_bind (wpAny_pure ?_) | skip
  refine wpAny_bind (wpAny_sequenceKey ht.typeIs (by decide) ?_)
  refine wpAny_bind (wpAny_callSpecial?_slot (name := Str.ofString "__getitem__") ht.typeIs PyProof.Rows.slot_tuple_getitem
    (wpAny_call_entry PyProof.Rows.slot_tuple_getitem ht.typeIs entry_tuple_getitem ?_ (args_tuple_getitem _ _)))
  show wpAny _ _ (Builtin.Tuple.tupleItemsOf (.ref t) >>= _) _ _ s
  refine wpAny_bind (tupleItemsOf_ ht ?_)
  refine wpAny_bind (wpAny_typeOf hTs ?_)
  rw [if_pos (by decide)]
  refine wpAny_bind (sliceApplied_gen hs pl pu ?_)
  have hno : ¬ ((((sIx items.size 0 lo : Nat) : Int) == 0 && (1 : Int) == 1 && (sIx items.size items.size hi - sIx items.size 0 lo) == items.size) = true) := by
    intro q
    rw [Bool.and_eq_true, Bool.and_eq_true] at q
    have q1 : ((sIx items.size 0 lo : Nat) : Int) = 0 := eq_of_beq q.1.1
    have q2 : sIx items.size items.size hi - sIx items.size 0 lo = items.size := eq_of_beq q.2
    exact hw ⟨by omega, by omega⟩
  show wpAny _ _ (if (((sIx items.size 0 lo : Nat) : Int) == 0 && (1 : Int) == 1 && (sIx items.size items.size hi - sIx items.size 0 lo) == items.size) = true then _ else _) _ _ s
  rw [if_neg hno, pick_gen]
  first
    | exact wpAny_bind (m := Builtin.Tuple.tupleExact _) (wpAny_newObj_type (wpAny_pure ⟨_, rfl, wpAny_pure h⟩) htake)
    | exact wpAny_bind (m := Builtin.Tuple.tupleExact _) (wpAny_newObj_type (wpAny_bind (wpAny_pure (wpAny_pure ⟨_, rfl, wpAny_pure h⟩))) htake)
    | exact wpAny_bind (wpAny_bind (m := Builtin.Tuple.tupleExact _) (wpAny_newObj_type (wpAny_pure (wpAny_pure ⟨_, rfl, wpAny_pure h⟩)) htake))
    | exact wpAny_bind (wpAny_bind (m := Builtin.Tuple.tupleExact _) (wpAny_newObj_type (wpAny_pure ⟨_, rfl, wpAny_pure h⟩) htake))
end
end HT

namespace L2
open PySem PySem.Spec PyProof.Rows

/-! ### the parts of a slice -/
abbrev TO := St → Hp → (Option Int → Hp → Prop) → Prop
/-- a slice's part (left out, or an int) -/
def PO (X : Cx) (e : Option Expr) (t : TO) : Prop :=
  ∀ (pins : List (Addr × Obj)) (s : Shared) (σ : St) (H : Hp) (Q : Option Int → Hp → Prop), Inv X pins σ H s → t σ H Q →
    wpAny (model X.prog X.w) X.A (evalPart e X.env) (fun u s' => ∃ o H', Inv X pins σ H' s' ∧ IsPart u o ∧ Q o H') X.xe s
def tNoPart : TO := fun _ H Q => Q none H
def tPart (t : TE) : TO := fun σ H Q => t σ H fun x H1 => ∃ i, x = .int i ∧ Q (some i) H1

section
variable {X : Cx} {e : Expr} {te : TE} {lo hi : Option Expr} {tl th : TO} {pos p2 : Pos}

theorem po_none : PO X none tNoPart := by
  intro pins s σ H Q I h
  rw [evalPart_none]
  exact wpAny_pure ⟨none, H, I, .none, h⟩
theorem po_some (h : PE X e te) : PO X (some e) (tPart te) := by
  intro pins s σ H Q I hw
  rw [evalPart_some]
  refine thn (h pins s σ H _ I hw) fun u s1 ⟨x, H1, I1, r1, q1⟩ => ?_
  obtain ⟨i, rfl, q⟩ := q1
  obtain ⟨t, rfl⟩ := r1
  exact ⟨some i, H1, I1, .int i t, q⟩

/-- what a slice of a value is, by values: the slice object stands at sl -/
def SlR (X : Cx) (r : V → Option Int → Option Int → Hp → VK → Prop) : Prop :=
  ∀ (pins : List (Addr × Obj)) (s : Shared) (σ : St) (H : Hp) (x : V) (v vl vu : Value) (lo hi : Option Int) (sl : Addr) (Q : VK), Inv X pins σ H s → RelV x v → s.heap.IsSliceOf sl vl vu .none → IsPart vl lo → IsPart vu hi → r x lo hi H Q →
    ∃ T id, typeLookup (.type T) "__getitem__" = pure (some (.builtin id)) ∧ s.TypeIs v T ∧ wpAny (model X.prog X.w) X.A (getItem v (.ref sl)) (EP X pins σ Q) X.xe s
theorem SlR.or {r r' : V → Option Int → Option Int → Hp → VK → Prop} (h : SlR X r) (h' : SlR X r') : SlR X (fun x lo hi H Q => r x lo hi H Q ∨ r' x lo hi H Q) := by
  intro pins s σ H x v vl vu lo hi sl Q I rx hs pl pu q
  rcases q with q | q
  · exact h pins s σ H x v vl vu lo hi sl Q I rx hs pl pu q
  · exact h' pins s σ H x v vl vu lo hi sl Q I rx hs pl pu q
def tSl (r : V → Option Int → Option Int → Hp → VK → Prop) (te : TE) (tl th : TO) : TE := fun σ H Q => te σ H fun x H1 => tl σ H1 fun l H2 => th σ H2 fun u H3 => r x l u H3 Q
/-- a[lo:hi], any a -/
theorem pe_slice {r : V → Option Int → Option Int → Hp → VK → Prop} (hr : SlR X r) (he : PE X e te) (hl : PO X lo tl) (hu : PO X hi th) : PE X (.Subscript e (.Slice lo hi none p2) pos) (tSl r te tl th) := by
  intro pins s σ H Q I h
  refine Subscript_ (thn (he pins s σ H _ I h) fun v s1 ⟨x, H1, I1, r1, q1⟩ => ?_)
  refine wpAny_Slice (thn (hl pins s1 σ H1 _ I1 q1) fun vl s2 ⟨l, H2, I2, pl, q2⟩ => thn (hu pins s2 σ H2 _ I2 q2) fun vu s3 ⟨u, H3, I3, pu, q3⟩ => ?_)
  rw [evalPart_none]
  refine wpAny_pure ?_
  have I4 : Inv X pins σ H3 { s3 with heap := s3.heap.push { cls := .type "slice", data := .fields #[vl, vu, .none] } } := I3.kept (t' := s3.toks) fun b ob q => Heap.get?_push_of_some _ q
  obtain ⟨T, id, hT, ht, hg⟩ := hr pins { s3 with heap := s3.heap.push { cls := .type "slice", data := .fields #[vl, vu, .none] } } σ H3 x v vl vu l u s3.heap.objs.size Q I4 r1 (Heap.IsSliceOf.new ..) pl pu q3
  show wpAny (model X.prog X.w) X.A (subscriptTail e (.Slice lo hi none p2) v (.ref s3.heap.objs.size)) (EP X pins σ Q) X.xe { s3 with heap := s3.heap.push { cls := .type "slice", data := .fields #[vl, vu, .none] } }
  exact tail_any (ops := [.ref s3.heap.objs.size, v]) ht hT hg (by with_unfolding_all rfl)

/-- the items of xs[lo:hi] -/
def cutV (xs : List V) (lo hi : Option Int) : List V := (xs.drop (HT.sIx xs.length 0 lo)).take (HT.sIx xs.length xs.length hi - HT.sIx xs.length 0 lo)
theorem cutV_length (xs : List V) (lo hi : Option Int) : (cutV xs lo hi).length ≤ xs.length := by
  unfold cutV
  rw [List.length_take, List.length_drop]
  omega
/-- t[lo:hi], not the whole of it (the whole would be t itself) -/
def rSlT (K : PySem.W.Frag) : V → Option Int → Option Int → Hp → VK → Prop := fun x lo hi H Q => ∃ a xs, x = .ref a ∧ SqT K H a xs ∧
  ¬ (HT.sIx xs.length 0 lo = 0 ∧ HT.sIx xs.length xs.length hi = xs.length) ∧ ∀ p, H p = none → Q (.ref p) (upd H p (.tup (cutV xs lo hi)))
theorem sl_tup : SlR X (rSlT X.K) := by
  intro pins s σ H x v vl vu lo hi sl Q I rx hs pl pu h
  obtain ⟨a, xs, rfl, hx, hw, q⟩ := h
  cases rx
  obtain ⟨its, r, ht, hz⟩ := I.tuple hx
  have hlen : its.toArray.size = xs.length := by rw [List.size_toArray]; exact r.length.symm
  refine ⟨"tuple", _, PyProof.Rows.slot_tuple_getitem.lookup, ht.typeIs, ?_⟩
  refine HT.getItem_tuple_cut ht hs pl pu (by rw [hlen]; exact hw) ?_ (by rw [hlen]; exact hz)
  rw [hlen]
  refine ⟨.ref s.heap.objs.size, _, I.laid (t' := s.toks) (o := .tup (cutV xs lo hi)) (fun b ob q => Heap.get?_push_of_some _ q) (Nat.le_refl _) ?_, rfl, q _ (I.hok.fresh (Nat.le_refl _))⟩
  exact ⟨Nat.le_trans (cutV_length xs lo hi) hz, _, (r.drop (HT.sIx xs.length 0 lo)).take (HT.sIx xs.length xs.length hi - HT.sIx xs.length 0 lo), IsTup.new _ _⟩

/-! ### t < u, t + u -/
end
end L2

namespace L2
open PySem PySem.Spec PyProof.Rows

/-! ### places -/
/-- the place that an index of any sign means -/
def ixN (n : Nat) (i : Int) : Option Nat := if 0 ≤ i then (if i < n then some i.toNat else none) else if -(n : Int) ≤ i then some (i + n).toNat else none
def atI {α : Type} (xs : List α) (i : Int) : Option α := (ixN xs.length i).bind fun j => xs[j]?
theorem ixN_seq {n : Nat} {i : Int} {j : Nat} (h : ixN n i = some j) : seqIndex? i n = some j ∧ j < n ∧ -(n : Int) ≤ i ∧ i < n := by
  unfold ixN at h
  by_cases h0 : 0 ≤ i
  · rw [if_pos h0] at h
    by_cases h1 : i < n
    · rw [if_pos h1] at h
      have e : i.toNat = j := Option.some.inj h
      exact ⟨by rw [seqIndex_of h0 h1, e], by omega, by omega, h1⟩
    · rw [if_neg h1] at h; cases h
  · rw [if_neg h0] at h
    by_cases h1 : -(n : Int) ≤ i
    · rw [if_pos h1] at h
      have e : (i + n).toNat = j := Option.some.inj h
      exact ⟨by rw [seqIndex_neg (by omega) h1, e], by omega, h1, by omega⟩
    · rw [if_neg h1] at h; cases h
theorem atI_get {α : Type} {xs : List α} {i : Int} {v : α} (h : atI xs i = some v) : ∃ j, seqIndex? i xs.length = some j ∧ xs[j]? = some v ∧ j < xs.length ∧ -(xs.length : Int) ≤ i ∧ i < xs.length := by
  unfold atI at h
  cases e : ixN xs.length i with
  | none => rw [e] at h; cases h
  | some j =>
    rw [e] at h
    obtain ⟨h1, h2, h3, h4⟩ := ixN_seq e
    exact ⟨j, h1, h, h2, h3, h4⟩
theorem atI_nat {α : Type} {xs : List α} {j : Nat} {v : α} (h : xs[j]? = some v) : atI xs (j : Int) = some v := by
  have hj : j < xs.length := (List.getElem?_eq_some_iff.mp h).1
  have e : ixN xs.length (j : Int) = some j := by
    unfold ixN
    rw [if_pos (by omega), if_pos (by omega)]; simp
  unfold atI; rw [e]; exact h
/-! ### what may be subscripted -/
/-- what stands as an index of a plain subscript -/
def PlainIx (b : Expr) : Prop := ∀ o i, subscripted b false o i = operate [o, i] (getItem o i)
/-- a subscript by values -/
def IxR (X : Cx) (r : R2) : Prop :=
  ∀ (value slice : Expr) (pins : List (Addr × Obj)) (s : Shared) (σ : St) (H : Hp) (x y : V) (v u : Value) (Q : VK), Inv X pins σ H s → RelV x v → RelV y u → r x y H Q →
    subscripted slice false v u = operate [v, u] (getItem v u) → wpAny (model X.prog X.w) X.A (subscriptTail value slice v u) (EP X pins σ Q) X.xe s
/-- a call of a builtin's method by values: the receiver, the arguments -/
def MtR (X : Cx) (id : String) (r : V → List V → Hp → VK → Prop) : Prop :=
  ∀ (pins : List (Addr × Obj)) (s : Shared) (σ : St) (H : Hp) (x : V) (xs : List V) (v : Value) (us : List Value) (Q : VK), Inv X pins σ H s → RelV x v → Vals xs us → r x xs H Q →
    wpAny (model X.prog X.w) X.A (call (.builtin id) (v :: us)) (EP X pins σ Q) X.xe s
section
variable {X : Cx} {a b : Expr} {ta tb : TE} {pos : Pos}
theorem IxR.or {r r' : R2} (h : IxR X r) (h' : IxR X r') : IxR X (fun x y H Q => r x y H Q ∨ r' x y H Q) := by
  intro value slice pins s σ H x y v u Q I rx ry q hs
  rcases q with q | q
  · exact h value slice pins s σ H x y v u Q I rx ry q hs
  · exact h' value slice pins s σ H x y v u Q I rx ry q hs
theorem MtR.or {id : String} {r r' : V → List V → Hp → VK → Prop} (h : MtR X id r) (h' : MtR X id r') : MtR X id (fun x xs H Q => r x xs H Q ∨ r' x xs H Q) := by
  intro pins s σ H x xs v us Q I rx rs q
  rcases q with q | q
  · exact h pins s σ H x xs v us Q I rx rs q
  · exact h' pins s σ H x xs v us Q I rx rs q
/-- a[b] -/
theorem pe_ix {r : R2} (hr : IxR X r) (ha : PE X a ta) (hb : PE X b tb) (hs : PlainIx b) : PE X (.Subscript a b pos) (tOp r ta tb) := by
  intro pins s σ H Q I h
  exact Subscript_ (binT ha hb I h fun v u s2 x y H2 I2 rx ry q => hr a b pins s2 σ H2 x y v u Q I2 rx ry q (hs _ _))

def rIxL (K : PySem.W.Frag) : R2 := fun x y H Q => ∃ p xs i v, x = .ref p ∧ y = .int i ∧ SqL K H p xs ∧ atI xs i = some v ∧ Q v H
def rIxT (K : PySem.W.Frag) : R2 := fun x y H Q => ∃ p xs i v, x = .ref p ∧ y = .int i ∧ SqT K H p xs ∧ atI xs i = some v ∧ Q v H
def rIxS : R2 := fun x y H Q => ∃ z i c, x = .str z ∧ y = .int i ∧ z.length ≤ sizeLine ∧ atI z.cps.toList i = some c ∧ Q (.str ⟨#[c]⟩) H
theorem ix_list : IxR X (rIxL X.K) := by
  intro value slice pins s σ H x y v u Q I rx ry h hs
  obtain ⟨p, xs, i, z, rfl, rfl, hq, he, q⟩ := h
  cases rx
  obtain ⟨t, rfl⟩ := ry
  obtain ⟨its, r, pl, hz⟩ := I.list hq
  obtain ⟨j, h1, h2, h3, h4, h5⟩ := atI_get he
  obtain ⟨w, ew, rw'⟩ := r.get h2
  have hl := r.length
  have hn := line63
  have fin : EP X pins σ Q w s := ⟨z, H, I, rw', q⟩
  by_cases h0 : 0 ≤ i
  · have hj : i.toNat = j := by
      rw [seqIndex_of h0 h5] at h1
      exact Option.some.inj h1
    exact item_listR pl.isList h0 (by omega) (by rw [hj]; simpa using ew) fin hs
  · have hj : (i + (its.toArray.size : Int)).toNat = j := by
      rw [seqIndex_neg (by omega) h4] at h1
      rw [List.size_toArray, ← hl]
      exact Option.some.inj h1
    exact subscriptTail_builtinR (x := w) pl.isList.typeIs slot_list_getitem.lookup
      (wpAny_getItem_list_neg (Q := fun r s' => r = w ∧ EP X pins σ Q r s') pl.isList (by omega) (by rw [List.size_toArray] <;> omega) (by omega) (by rw [hj]; simpa using ew) ⟨rfl, fin⟩) hs
theorem ix_tup : IxR X (rIxT X.K) := by
  intro value slice pins s σ H x y v u Q I rx ry h hs
  obtain ⟨p, xs, i, z, rfl, rfl, hq, he, q⟩ := h
  cases rx
  obtain ⟨t, rfl⟩ := ry
  obtain ⟨its, r, pl, hz⟩ := I.tuple hq
  obtain ⟨j, h1, h2, h3, h4, h5⟩ := atI_get he
  obtain ⟨w, ew, rw'⟩ := r.get h2
  have hl := r.length
  have hn := line63
  have fin : EP X pins σ Q w s := ⟨z, H, I, rw', q⟩
  exact subscriptTail_builtinR (x := w) pl.typeIs slot_tuple_getitem.lookup
    (getItem_tuple (j := j) (Q := fun r s' => r = w ∧ EP X pins σ Q r s') pl (by omega) (by omega) (by rw [List.size_toArray, ← hl]; exact h1) (by simpa using ew) ⟨rfl, fin⟩) hs
/-! ### xs[i] = v, any sign -/
/-- the list's object behind a store -/
theorem mapSeq_set (its : List Value) (n j : Nat) (u : Value) : Obj.mapSeq (·.setIfInBounds j u) { cls := .type "list", data := .seq its.toArray n } = { cls := .type "list", data := .seq (its.set j u).toArray n } := by
  simp [Obj.mapSeq]
theorem Inv.lst {pins : List (Addr × Obj)} {σ : St} {H : Hp} {s : Shared} {p : Addr} {xs : List V} (I : Inv X pins σ H s) (h : H p = some (.lst xs)) :
    ∃ (its : List Value) (n : Nat), Vals xs its ∧ s.heap.get? p = some { cls := .type "list", data := .seq its.toArray n } ∧ xs.length ≤ sizeLine := by
  obtain ⟨z, its, n, r, e⟩ := I.hok p _ h
  exact ⟨its, n, r, e, z⟩
/-- the list at p is written by an update of its object -/
theorem Inv.lstUpd {pins : List (Addr × Obj)} {σ : St} {H : Hp} {s : Shared} {p : Addr} {xs ys : List V} {its its' : List Value} {n n' : Nat} {f : Obj → Obj} (I : Inv X pins σ H s) (h : H p = some (.lst xs))
    (ho : s.heap.get? p = some { cls := .type "list", data := .seq its.toArray n }) (hf : f { cls := .type "list", data := .seq its.toArray n } = { cls := .type "list", data := .seq its'.toArray n' }) (r : Vals ys its') (hz : ys.length ≤ sizeLine) (t : Nat) :
    Inv X pins σ (upd H p (.lst ys)) { s with heap := s.heap.update p f, toks := t } := by
  have e : (s.heap.update p f).get? p = some { cls := .type "list", data := .seq its'.toArray n' } := by
    rw [Heap.get?_update_self f ho (by rw [hf] <;> rfl), hf]
  refine I.write (x := p) (e := p) (by rw [h]; trivial) (.inl rfl) (fun b u hb q => (Heap.get?_update_other _ _ (Ne.symm hb)).trans q) ⟨_, e⟩ ?_
  exact ⟨hz, its', n', r, e⟩
def rSetL : V → V → V → Hp → (Hp → Prop) → Prop := fun o i v H Q => ∃ p xs k j, o = .ref p ∧ i = .int k ∧ H p = some (.lst xs) ∧ ixN xs.length k = some j ∧ Q (upd H p (.lst (xs.set j v)))
theorem set_list : PSet X rSetL := by
  intro pins s σ H o i v ov iv u Q I ro ri rv h
  obtain ⟨p, xs, k, j, rfl, rfl, hp, hj, q⟩ := h
  cases ro
  obtain ⟨t, rfl⟩ := ri
  obtain ⟨its, n, r, ho, hz⟩ := I.lst hp
  obtain ⟨h1, h2, h3, h4⟩ := ixN_seq hj
  have hl := r.length
  have hn := line63
  have I' : Inv X pins σ (upd H p (.lst (xs.set j v))) { s with heap := s.heap.update p (Obj.mapSeq (·.setIfInBounds j u)) } :=
    I.lstUpd hp ho (mapSeq_set its n j u) (r.set rv j) (by rw [List.length_set]; exact hz) s.toks
  by_cases h0 : 0 ≤ k
  · have hk : k.toNat = j := by
      rw [seqIndex_of h0 h4] at h1
      exact Option.some.inj h1
    exact PySem.W.ki_setAt ho h0 (by omega) (by rw [List.size_toArray, ← hl]; exact h4) (by rw [hk]; exact ⟨_, I', q⟩)
  · have hk : (k + (its.toArray.size : Int)).toNat = j := by
      rw [seqIndex_neg (by omega) h3] at h1
      rw [List.size_toArray, ← hl]
      exact Option.some.inj h1
    exact PySem.W.ki_setBack ho (by omega) (by rw [List.size_toArray, ← hl]; exact h3) (by omega) (by rw [hk]; exact ⟨_, I', q⟩)

/-! ### slices -/
theorem slice_bounds (lo hi : Option Int) (n : Nat) : (sliceBounds lo hi none n).1 = ((HT.sIx n 0 lo : Nat) : Int) ∧ (sliceBounds lo hi none n).2.1 = ((HT.sIx n n hi : Nat) : Int) ∧ (sliceBounds lo hi none n).2.2 = 1 := by
  refine ⟨?_, ?_, rfl⟩
  · cases lo with
    | none => simp [sliceBounds, HT.sIx]
    | some i =>
      simp only [sliceBounds, HT.sIx, Option.getD_none, show (1 : Int) > 0 by decide, if_true]
      by_cases h : i < 0
      · simp only [h, if_true] <;> omega
      · simp only [h, if_false] <;> omega
  · cases hi with
    | none => simp [sliceBounds, HT.sIx]
    | some i =>
      simp only [sliceBounds, HT.sIx, Option.getD_none, show (1 : Int) > 0 by decide, if_true]
      by_cases h : i < 0
      · simp only [h, if_true] <;> omega
      · simp only [h, if_false] <;> omega
theorem slicePick_cut (its : List Value) (lo hi : Option Int) : slicePick its.toArray lo hi none = ((its.drop (HT.sIx its.length 0 lo)).take (HT.sIx its.length its.length hi - HT.sIx its.length 0 lo)).toArray := by
  obtain ⟨h1, h2, h3⟩ := slice_bounds lo hi its.toArray.size
  unfold slicePick
  rw [h1, h2, h3]
  simp only [sliceRange_one, pick_run, List.size_toArray] <;> rfl
/-- xs[lo:hi] of a list: a new list -/
def rSlL (K : PySem.W.Frag) : V → Option Int → Option Int → Hp → VK → Prop := fun x lo hi H Q => ∃ a xs, x = .ref a ∧ SqL K H a xs ∧ ∀ p, H p = none → Q (.ref p) (upd H p (.lst (cutV xs lo hi)))
theorem sl_list : SlR X (rSlL X.K) := by
  intro pins s σ H x v vl vu lo hi sl Q I rx hs pl pu h
  obtain ⟨a, xs, rfl, hx, q⟩ := h
  cases rx
  obtain ⟨its, r, ht, hz⟩ := I.list hx
  have hlen := r.length
  refine ⟨"list", _, slot_list_getitem.lookup, ht.isList.typeIs, ?_⟩
  refine wpAny_getItem_list_slice ht.isList hs pl pu .none (by simp) ?_ (by rw [List.size_toArray] <;> omega)
  rw [slicePick_cut, ← hlen]
  refine ⟨.ref s.heap.objs.size, _, I.laid (t' := s.toks) (o := .lst (cutV xs lo hi)) (fun b ob q => Heap.get?_push_of_some _ q) (Nat.le_refl _) ?_, rfl, q _ (I.hok.fresh (Nat.le_refl _))⟩
  exact ⟨Nat.le_trans (cutV_length xs lo hi) hz, _, 0, (r.drop (HT.sIx xs.length 0 lo)).take (HT.sIx xs.length xs.length hi - HT.sIx xs.length 0 lo), Heap.get?_push_size _ rfl⟩

/-! ### in, not in: flat items -/
/-! ### len, list(x), tuple(x) of any list or tuple that is read -/
theorem call_len_seq : CallR X (.builtin "len") (fun xs H Q => ∃ p ys, xs = [.ref p] ∧ (SqL X.K H p ys ∨ SqT X.K H p ys) ∧ Q (.int ys.length) H) := by
  intro pins s σ H xs us Q I r h
  obtain ⟨p, ys, rfl, hq, q⟩ := h
  obtain ⟨u, rfl, rx⟩ := vals1 r
  cases rx
  have hn := line63
  rcases hq with hq | hq
  · obtain ⟨its, r', pl, hz⟩ := I.list hq
    have hlen := r'.length
    exact Calls.call_len_list pl.isList (by simp only [List.size_toArray] <;> omega) ⟨.int ys.length, H, I.tok _, ⟨s.toks + 1, by rw [List.size_toArray, hlen]⟩, q⟩
  · obtain ⟨its, r', pl, hz⟩ := I.tuple hq
    have hlen := r'.length
    exact len_tuple pl (by simp only [List.size_toArray] <;> omega) ⟨.int ys.length, H, I.tok _, ⟨s.toks + 1, by rw [List.size_toArray, hlen]⟩, q⟩
theorem CallR.or {f : Value} {r r' : List V → Hp → VK → Prop} (h : CallR X f r) (h' : CallR X f r') : CallR X f (fun xs H Q => r xs H Q ∨ r' xs H Q) := by
  intro pins s σ H xs us Q I rs q
  rcases q with q | q
  · exact h pins s σ H xs us Q I rs q
  · exact h' pins s σ H xs us Q I rs q
theorem call_list_of : CallR X (.type "list") (fun xs H Q => ∃ p ys, xs = [.ref p] ∧ (SqL X.K H p ys ∨ SqT X.K H p ys) ∧ ∀ l, H l = none → Q (.ref l) (upd H l (.lst ys))) := by
  intro pins s σ H xs us Q I r h
  obtain ⟨p, ys, rfl, hq, q⟩ := h
  obtain ⟨u, rfl, rx⟩ := vals1 r
  cases rx
  have fin : ∀ (its : List Value), Vals ys its → ys.length ≤ sizeLine → ∀ (h' : Heap) (c' : Nat), (∀ b o', s.heap.get? b = some o' → h'.get? b = some o') →
      h'.get? s.heap.objs.size = some { cls := .type "list", dict := none, data := .seq its.toArray c', slots := #[] } → EP X pins σ Q (.ref s.heap.objs.size) { s with heap := h' } := fun its r' hz h' c' kp e =>
    ⟨.ref s.heap.objs.size, _, I.laid (t' := s.toks) kp (Nat.le_refl _) (show ObjOk X.prog X.w _ h' _ (.lst ys) from ⟨hz, its, c', r', e⟩), rfl, q _ (I.hok.fresh (Nat.le_refl _))⟩
  rcases hq with hq | hq
  · obtain ⟨its, r', pl, hz⟩ := I.list hq
    have hlen := r'.length
    obtain ⟨o, ho, hc, n, hd⟩ := pl.isList
    exact call_list_seq p (.inl rfl) ho hc hd (fun h' c' kp e => fin its r' hz h' c' kp e) (by simp only [List.size_toArray] <;> omega)
  · obtain ⟨its, r', pl, hz⟩ := I.tuple hq
    have hlen := r'.length
    obtain ⟨o, ho, hc, n, hd⟩ := pl
    exact call_list_seq p (.inr rfl) ho hc hd (fun h' c' kp e => fin its r' hz h' c' kp e) (by simp only [List.size_toArray] <;> omega)
theorem call_tuple_of : CallR X (.type "tuple") (fun xs H Q => ∃ p ys, xs = [.ref p] ∧ ((SqL X.K H p ys ∧ ∀ l, H l = none → Q (.ref l) (upd H l (.tup ys))) ∨ (SqT X.K H p ys ∧ Q (.ref p) H))) := by
  intro pins s σ H xs us Q I r h
  obtain ⟨p, ys, rfl, h⟩ := h
  obtain ⟨u, rfl, rx⟩ := vals1 r
  cases rx
  rcases h with ⟨hq, q⟩ | ⟨hq, q⟩
  · obtain ⟨its, r', pl, hz⟩ := I.list hq
    have hlen := r'.length
    refine call_tuple_list pl.isList (fun h' kp => ?_) (by simp only [List.size_toArray] <;> omega)
    have I1 : Inv X pins σ H { s with heap := h' } := I.kept (t' := s.toks) kp
    have I2 : Inv X pins σ (upd H h'.objs.size (.tup ys)) { s with heap := h'.push { cls := .type "tuple", data := .seq its.toArray } } :=
      I1.laid (t' := s.toks) (fun b o e => Heap.get?_push_of_some _ e) (Nat.le_refl _) (show ObjOk X.prog X.w _ _ _ (.tup ys) from ⟨hz, its, r', IsTup.new _ _⟩)
    exact ⟨.ref h'.objs.size, _, I2, rfl, q _ (I1.hok.fresh (Nat.le_refl _))⟩
  · obtain ⟨its, r', pl, hz⟩ := I.tuple hq
    exact call_tuple_same pl ⟨.ref p, H, I, rfl, q⟩

/-! ### the call of a builtin's method: o.m(..) -/
/-- the value is of that builtin type -/
def tyV (K : PySem.W.Frag) (T : String) (x : V) (H : Hp) : Prop := match x with
  | .str _ => T = "str"
  | .int _ => T = "int"
  | .ref p => (T = "list" ∧ ∃ xs, SqL K H p xs) ∨ (T = "tuple" ∧ ∃ o, K.lookup p = some o ∧ o.cls = .type "tuple" ∧ o.dict = none) ∨
      (T = "dict" ∧ ((∃ kvs, H p = some (.dK kvs)) ∨ ∃ kvs, H p = some (.dT kvs))) ∨ (T = "set" ∧ ∃ S n, H p = some (.set S n))
  | _ => False
theorem tyV_is {pins : List (Addr × Obj)} {σ : St} {H : Hp} {s : Shared} {T : String} {x : V} {v : Value} (I : Inv X pins σ H s) (r : RelV x v) (ty : tyV X.K T x H) :
    s.TypeIs v T ∧ ∀ a, v = .ref a → ∃ ob, s.heap.get? a = some ob ∧ ob.dict = none := by
  cases x with
  | str z =>
    obtain ⟨t, rfl⟩ := r
    cases (show T = "str" from ty)
    exact ⟨typeIs_str s z t, fun _ e => nomatch e⟩
  | int i =>
    obtain ⟨t, rfl⟩ := r
    cases (show T = "int" from ty)
    exact ⟨typeIs_int s i t, fun _ e => nomatch e⟩
  | ref p =>
    cases r
    rcases ty with ⟨rfl, xs, hq⟩ | ⟨rfl, o, hk, hc, hd⟩ | ⟨rfl, hk⟩ | ⟨rfl, S, n, hk⟩
    · obtain ⟨its, _, pl, _⟩ := I.list hq
      refine ⟨pl.isList.typeIs, fun a e => ?_⟩
      cases e
      obtain ⟨o, n, e, c, hd, _⟩ := pl
      exact ⟨o, e, hd⟩
    · refine ⟨⟨o, I.kIn p o hk, hc⟩, fun a e => ?_⟩
      cases e
      exact ⟨o, I.kIn _ o hk, hd⟩
    · have z : ∃ o, s.heap.get? p = some o ∧ o.ExactDict := by
        rcases hk with ⟨kvs, hk⟩ | ⟨kvs, hk⟩
        · obtain ⟨_, _, _, _, o, _, _, e, ex, _⟩ := I.hok p _ hk
          exact ⟨o, e, ex⟩
        · obtain ⟨_, _, _, _, o, _, _, e, ex, _⟩ := I.hok p _ hk
          exact ⟨o, e, ex⟩
      obtain ⟨o, e, ex⟩ := z
      refine ⟨⟨o, e, ex.1⟩, fun a e2 => ?_⟩
      cases e2
      exact ⟨o, e, ex.2.1⟩
    · obtain ⟨o, _, _, _, e, ex, _⟩ := I.hok p _ hk
      refine ⟨⟨o, e, ex.1⟩, fun a e2 => ?_⟩
      cases e2
      exact ⟨o, e, ex.2.1⟩
  | _ => exact False.elim ty
def tBM0 (K : PySem.W.Frag) (T : String) (r : V → List V → Hp → VK → Prop) (to : TE) : TE := fun σ H Q => to σ H fun x H1 => tyV K T x H1 ∧ r x [] H1 Q
def tBM (K : PySem.W.Frag) (T : String) (r : V → List V → Hp → VK → Prop) (to : TE) (t : TA) : TE := fun σ H Q => to σ H fun x H1 => tyV K T x H1 ∧ t σ H1 fun xs H2 => r x xs H2 Q
variable {o e : Expr} {es : List Expr} {to : TE} {t : TA} {name : Str} {apos cpos : Pos} {T id : String} {r : V → List V → Hp → VK → Prop}
theorem pe_bm (pa : PlainAttrs T) (slot : Slot T name id) (hty : typeOf (.builtin id) = pure (.type "method_descriptor")) (hm : MtR X id r) (ho : PE X o to) (ha : PA X (e :: es) t)
    (hbase : attributeBase o name X.env (eval o X.env) = eval o X.env := by rfl)
    (hfew : ((backTo cpos (starEach (e :: es) X.env)).all (fun x => !x.1) && (backToKw cpos (keywordEach [] X.env)).all (fun x => x.1.isSome)
      && decide ((e :: es).length + ([] : List Keyword).length + (if ([] : List Keyword).isEmpty then 0 else 1) < 30)) = true := by rfl)
    (hline : (apos.endLine == cpos.line) = true := by rfl) (hs : starEach (e :: es) X.env = (false, eval e X.env) :: starEach es X.env := by rfl) (hplain : (backTo cpos (starEach es X.env)).any (·.1) = false := by rfl) :
    PE X (.Call (.Attribute o name apos) (e :: es) [] cpos) (tBM X.K T r to t) := by
  intro pins s σ H Q I h
  refine wpAny_Call_method_late hbase hfew hline rfl (thn (ho pins s σ H _ I h) fun v s1 ⟨x, H1, I1, r1, ty, q1⟩ => ?_)
  obtain ⟨h1, h2⟩ := tyV_is I1 r1 ty
  refine ⟨T, id, pa, slot, hty, h1, h2, ?_⟩
  have hA := ha cpos pins s1 σ H1 _ I1 q1
  rw [hs] at hA ⊢
  refine Calls.callWith_builtin (by show (false || (backTo cpos (starEach es X.env)).any (·.1)) = false; rw [hplain] <;> rfl) (Calls.evalArgs_plain ?_)
  exact thn hA fun us s2 ⟨vs, H2, I2, r2, q2⟩ => hm pins s2 σ H2 x vs v us Q I2 r1 r2 q2
/- xs.append(e), list.index on a module's tuple .. are MtR facts of 06m -/
end
end L2

namespace L2
open PySem PySem.Spec PyProof.Rows

def MtM (X : Cx) (id : String) (r : V → List V → Hp → VK → Prop) : Prop :=
  ∀ (pins : List (Addr × Obj)) (s : Shared) (σ : St) (H : Hp) (x : V) (xs : List V) (v : Value) (us : List Value) (Q : VK), Inv X pins σ H s → RelV x v → Vals xs us → r x xs H Q →
    wpAny (model X.prog X.w) X.A (call (.builtin id) (v :: us)) (EP X pins σ Q) X.xe s

/-! ### lists of values -/
theorem Vals.one : ∀ {x : V} {us : List Value}, Vals [x] us → ∃ u, us = [u] ∧ RelV x u
  | _, _, .cons r .nil => ⟨_, rfl, r⟩
theorem Vals.two : ∀ {x y : V} {us : List Value}, Vals [x, y] us → ∃ u v, us = [u, v] ∧ RelV x u ∧ RelV y v
  | _, _, _, .cons r (.cons q .nil) => ⟨_, _, rfl, r, q⟩
theorem Vals.zero : ∀ {us : List Value}, Vals [] us → us = []
  | _, .nil => rfl
theorem Vals.dropLast {xs : List V} {us : List Value} (h : Vals xs us) : Vals xs.dropLast us.dropLast := by
  induction h with
  | nil => exact .nil
  | cons r t ih =>
    cases t with
    | nil => exact .nil
    | cons q t' => exact .cons r ih
theorem Vals.eraseIdx : ∀ {xs : List V} {us : List Value} (i : Nat), Vals xs us → Vals (xs.eraseIdx i) (us.eraseIdx i)
  | _, _, _, .nil => .nil
  | _, _, 0, .cons _ t => t
  | _, _, i + 1, .cons r t => .cons r (Vals.eraseIdx i t)
theorem Vals.reverse {xs : List V} {us : List Value} (h : Vals xs us) : Vals xs.reverse us.reverse := by
  induction h with
  | nil => exact .nil
  | cons r t ih => rw [List.reverse_cons, List.reverse_cons]; exact Vals.append ih (.cons r .nil)
theorem Vals.rep {xs : List V} {us : List Value} (h : Vals xs us) : ∀ k : Nat, Vals (List.replicate k xs).flatten (List.replicate k us).flatten
  | 0 => .nil
  | k + 1 => by
    rw [List.replicate_succ, List.replicate_succ, List.flatten_cons, List.flatten_cons]
    exact Vals.append h (Vals.rep h k)
theorem foldl_rep (its : List Value) : ∀ (k : Nat) (acc : List Value),
    List.foldl (fun x1 x2 => x1 ++ x2) acc.toArray (List.replicate k its.toArray) = (acc ++ (List.replicate k its).flatten).toArray
  | 0, acc => by simp
  | k + 1, acc => by
    have e : acc.toArray ++ its.toArray = (acc ++ its).toArray := by simp
    have e2 : (acc ++ its) ++ (List.replicate k its).flatten = acc ++ (List.replicate (k + 1) its).flatten := by
      rw [List.replicate_succ, List.flatten_cons, List.append_assoc]
    rw [← e2, ← foldl_rep its k (acc ++ its), ← e, List.replicate_succ, List.foldl_cons]

section
variable {X : Cx} {pins : List (Addr × Obj)} {σ : St} {H : Hp} {s : Shared} {l b : Addr} {xs ys zs : List V}

/-! ### the two steps: a tracked list is rewritten, a new list is laid -/
theorem Inv.lset {its its' : List Value} {n : Nat} {f : Array Value → Array Value} {t' : Nat} (I : Inv X pins σ H s) (hH : H l = some (.lst xs))
    (e : s.heap.get? l = some { cls := .type "list", data := .seq its.toArray n }) (hf : f its.toArray = its'.toArray) (hv : Vals ys its') (hz : ys.length ≤ sizeLine) :
    Inv X pins σ (upd H l (.lst ys)) { s with heap := s.heap.update l (Obj.mapSeq f), toks := t' } := by
  have q := PySem.IsL.update e f
  rw [hf] at q
  refine I.write (x := l) (e := l) (by rw [hH]; exact trivial) (.inl rfl) (fun b' u hb hu => (Heap.get?_update_other s.heap (Obj.mapSeq f) (Ne.symm hb)).trans hu) ⟨_, q⟩ ?_
  exact ⟨hz, its', _, hv, q⟩
theorem Inv.lnew {its : List Value} {t' : Nat} (I : Inv X pins σ H s) (hv : Vals ys its) (hz : ys.length ≤ sizeLine) :
    Inv X pins σ (upd H s.heap.objs.size (.lst ys)) { s with heap := s.heap.push { cls := .type "list", data := .seq its.toArray }, toks := t' } :=
  I.laid (fun _ _ q => Heap.get?_push_of_some _ q) (Nat.le_refl _) ⟨hz, its, 0, hv, Heap.get?_push_size _ rfl⟩
theorem Inv.fresh (I : Inv X pins σ H s) : H s.heap.objs.size = none := I.hok.fresh (Nat.le_refl _)
theorem Inv.lstM (I : Inv X pins σ H s) (hH : H l = some (.lst xs)) : xs.length ≤ sizeLine ∧ ∃ (its : List Value) (n : Nat), Vals xs its ∧ xs.length = its.length ∧ s.heap.get? l = some { cls := .type "list", data := .seq its.toArray n } := by
  obtain ⟨z, its, n, r, e⟩ := I.hok l _ hH
  exact ⟨z, its, n, r, r.length, e⟩

theorem notLongL {n : Nat} (h : n ≤ sizeLine) : Builtin.List.listTooLong n = false := by
  unfold Builtin.List.listTooLong
  exact decide_eq_false (by omega)
end

section
variable {X : Cx}

/-! ### methods -/
def rAppend : V → List V → Hp → VK → Prop := fun x vs H Q => ∃ l xs y, x = .ref l ∧ vs = [y] ∧ H l = some (.lst xs) ∧ xs.length < sizeLine ∧ Q .non (upd H l (.lst (xs ++ [y])))
theorem mt_append : MtM X "list.append" rAppend := by
  intro pins s σ H x vs v us Q I rx rv h
  obtain ⟨l, xs, y, rfl, rfl, hH, hz, q⟩ := h
  cases rx
  obtain ⟨u, rfl, ru⟩ := rv.one
  obtain ⟨z, its, n, r, hl, e⟩ := I.lstM hH
  refine call_meets F.slot_list_append ⟨_, e, rfl⟩ F.entry_list_append (F.args_list_append_2 _ _) (PySem.list_append l its.toArray n u (by rw [List.size_toArray]; omega)) ⟨e, ?_⟩
  refine ⟨.non, _, I.lset (its' := its ++ [u]) hH e (by simp) (r.append (.cons ru .nil)) ?_, rfl, q⟩
  rw [List.length_append, List.length_singleton]
  omega

def rPop : V → List V → Hp → VK → Prop := fun x vs H Q => ∃ l xs y, x = .ref l ∧ vs = [] ∧ H l = some (.lst xs) ∧ xs[xs.length - 1]? = some y ∧ Q y (upd H l (.lst xs.dropLast))
def rPopAt : V → List V → Hp → VK → Prop := fun x vs H Q => ∃ l xs i k y, x = .ref l ∧ vs = [.int i] ∧ H l = some (.lst xs) ∧ -(2 ^ 63) ≤ i ∧ i < 2 ^ 63 ∧ seqIndex? i xs.length = some k ∧ xs[k]? = some y ∧ Q y (upd H l (.lst (xs.eraseIdx k)))
def rReverse : V → List V → Hp → VK → Prop := fun x vs H Q => ∃ l xs, x = .ref l ∧ vs = [] ∧ H l = some (.lst xs) ∧ Q .non (upd H l (.lst xs.reverse))
/-! ### list + list, list += list, list * int -/
def rCat : R2 := fun x y H Q => ∃ l b xs zs, x = .ref l ∧ y = .ref b ∧ H l = some (.lst xs) ∧ H b = some (.lst zs) ∧ xs.length + zs.length ≤ sizeLine ∧ ∀ p, H p = none → Q (.ref p) (upd H p (.lst (xs ++ zs)))
/-- a list times an int (a negative one is nothing) -/
def rRep : R2 := fun x y H Q => ∃ l k xs, x = .ref l ∧ y = .int k ∧ H l = some (.lst xs) ∧ -(2 ^ 63) ≤ k ∧ k < 2 ^ 63 ∧ xs.length * k.toNat ≤ sizeLine ∧
  ∀ p, H p = none → Q (.ref p) (upd H p (.lst (List.replicate k.toNat xs).flatten))
theorem len_rep {α : Type} (xs : List α) (k : Nat) : (List.replicate k xs).flatten.length = k * xs.length := by
  induction k with
  | zero => simp
  | succ k ih => rw [List.replicate_succ, List.flatten_cons, List.length_append, ih, Nat.succ_mul, Nat.add_comm]
theorem op_rep : OpR X (binaryOp .Mult) rRep := by
  intro pins s σ H x y v u Q I rx ry h
  obtain ⟨l, k, xs, rfl, rfl, hH, h1, h2, hz, q⟩ := h
  cases rx
  obtain ⟨t, rfl⟩ := ry
  obtain ⟨z, its, n, r, hl, e⟩ := I.lstM hH
  have hlen : its.toArray.size * k.toNat ≤ sizeLine := by rw [List.size_toArray, ← hl]; exact hz
  have hcap : ¬ its.toArray.size * k.toNat > (2 ^ 63 - 1) / 8 := by
    have : (sizeLine : Nat) ≤ (2 ^ 63 - 1) / 8 := by decide
    omega
  have hfit : ¬ (!Builtin.List.listFitsIndex k) = true := by
    rw [fitsIndex_both h1 h2]
    exact Bool.false_ne_true
  have hlong : ¬ Builtin.List.listTooLong (its.toArray.size * k.toNat) = true := by
    rw [notLongL hlen]
    exact Bool.false_ne_true
  have hnew : List.foldl (fun x1 x2 => x1 ++ x2) #[] (List.replicate (if its.toArray.isEmpty = true then 0 else k.toNat) its.toArray) = (List.replicate k.toNat its).flatten.toArray := by
    have f0 : ∀ m : Nat, List.foldl (fun x1 x2 => x1 ++ x2) #[] (List.replicate m its.toArray) = (List.replicate m its).flatten.toArray := fun m => by
      have := foldl_rep its m []
      rw [List.nil_append] at this
      exact this
    rw [f0]
    cases its with
    | nil => simp
    | cons a r' => rw [if_neg (by simp)]
  refine wpAny_binaryOp_repeat_ref (T := "list") (U := "int") (by decide) ⟨_, e, rfl⟩ (fun s' => typeIs_int s' k t) noFill_list_mul F.fills_int_mul F.slot_int_rmul repeat_list F.slot_int_index.lookup
    (call_meets F.slot_int_rmul (typeIs_int s k t) F.entry_int_rmul (F.args_int_rmul_2 _ _) (int___rmul___int_list k t l its.toArray n)
      ⟨e, rfl, ⟨_, e, rfl⟩, call_meets F.slot_list_mul ⟨_, e, rfl⟩ F.entry_list_mul (F.args_list_mul_2 _ _) (AutoListH.list___mul___list_int_3 l its.toArray n k t hfit hcap hlong) ⟨e, ?_⟩⟩)
  rw [hnew]
  exact ⟨.ref _, _, I.lnew (t' := s.toks) (r.rep k.toNat) (by rw [len_rep, Nat.mul_comm]; exact hz), rfl, q _ I.fresh⟩

/-! ### del xs[i] -/
end

/-! ### xs[a:b] = ys -/
section
variable {prog : Program} {w : World} {A : Around} {E : Value → Shared → Prop} {s : Shared}
end

section
variable {X : Cx}
end
end L2

namespace L2
open PySem PySem.Spec PyProof.Rows

/-! ### lists of pairs as tables -/
section
variable {κ : Type} [DecidableEq κ]
def valV (kvs : List (κ × V)) (k : κ) : Option V := (kvs.find? fun kv => decide (kv.1 = k)).map (·.2)
/-- in its place, or at the end -/
def putK (kvs : List (κ × V)) (k : κ) (v : V) : List (κ × V) :=
  if (kvs.any fun kv => decide (kv.1 = k)) = true then kvs.map (fun kv => if kv.1 = k then (kv.1, v) else kv) else kvs ++ [(k, v)]
def dropK (kvs : List (κ × V)) (k : κ) : List (κ × V) := kvs.filter fun kv => decide (kv.1 ≠ k)

theorem valV_pos {p : κ × V} {r : List (κ × V)} {k : κ} (e : p.1 = k) : valV (p :: r) k = some p.2 := by simp [valV, List.find?_cons, e]
theorem valV_neg {p : κ × V} {r : List (κ × V)} {k : κ} (e : ¬ p.1 = k) : valV (p :: r) k = valV r k := by simp [valV, List.find?_cons, e]
theorem valV_any (k : κ) : ∀ kvs : List (κ × V), (kvs.any fun kv => decide (kv.1 = k)) = (valV kvs k).isSome
  | [] => rfl
  | p :: r => by
    rw [List.any_cons]
    by_cases e : p.1 = k
    · simp only [valV_pos e, decide_eq_true e, Bool.true_or, Option.isSome_some]
    · rw [valV_neg e, decide_eq_false e, Bool.false_or]; exact valV_any k r
theorem valV_map (k j : κ) (y : V) : ∀ kvs : List (κ × V), valV (kvs.map fun kv => if kv.1 = k then (kv.1, y) else kv) j = (valV kvs j).map fun x => if j = k then y else x
  | [] => rfl
  | p :: r => by
    have ih := valV_map k j y r
    rw [List.map_cons]
    by_cases h : p.1 = k
    · rw [if_pos h]
      by_cases e : p.1 = j
      · rw [valV_pos (p := (p.1, y)) e, valV_pos e, Option.map_some, if_pos (e.symm.trans h)]
      · rw [valV_neg (p := (p.1, y)) e, valV_neg e, ih]
    · rw [if_neg h]
      by_cases e : p.1 = j
      · rw [valV_pos (p := p) e, valV_pos e, Option.map_some, if_neg (fun z => h (e.trans z))]
      · rw [valV_neg (p := p) e, valV_neg e, ih]
theorem valV_snoc (k j : κ) (y : V) : ∀ kvs : List (κ × V), valV kvs k = none → valV (kvs ++ [(k, y)]) j = if j = k then some y else valV kvs j
  | [], _ => by
    by_cases e : k = j
    · rw [if_pos e.symm]; exact valV_pos (p := (k, y)) e
    · rw [if_neg (fun z => e z.symm)]; exact valV_neg (p := (k, y)) e
  | p :: r, hn => by
    rw [List.cons_append]
    have hk : ¬ p.1 = k := fun z => by rw [valV_pos z] at hn; cases hn
    rw [valV_neg hk] at hn
    have ih := valV_snoc k j y r hn
    by_cases e : p.1 = j
    · rw [valV_pos e, valV_pos e, if_neg (fun z => hk (e.trans z))]
    · rw [valV_neg e, valV_neg e, ih]
theorem valV_put (kvs : List (κ × V)) (k j : κ) (y : V) : valV (putK kvs k y) j = if j = k then some y else valV kvs j := by
  unfold putK
  by_cases a : (kvs.any fun kv => decide (kv.1 = k)) = true
  · rw [if_pos a, valV_map]
    rw [valV_any] at a
    by_cases e : j = k
    · obtain ⟨x, hx⟩ := Option.isSome_iff_exists.mp a
      rw [if_pos e, e, hx, Option.map_some, if_pos rfl]
    · rw [if_neg e]
      cases valV kvs j with
      | none => rfl
      | some x => rw [Option.map_some, if_neg e]
  · rw [if_neg a]
    refine valV_snoc k j y kvs ?_
    rw [valV_any] at a
    cases q : valV kvs k with
    | none => rfl
    | some x => rw [q] at a; exact (a rfl).elim
theorem length_putK (kvs : List (κ × V)) (k : κ) (v : V) : (putK kvs k v).length ≤ kvs.length + 1 := by
  unfold putK
  split
  · rw [List.length_map]; omega
  · rw [List.length_append, List.length_cons, List.length_nil]; omega
theorem RelO.isSome_eq {o : Option V} {u : Option Value} (r : RelO o u) : o.isSome = u.isSome := by
  cases o with
  | none => cases u with
    | none => rfl
    | some _ => exact (show False from r).elim
  | some _ => cases u with
    | none => exact (show False from r).elim
    | some _ => rfl
theorem RelO.getD {o : Option V} {u : Option Value} {d : V} {d' : Value} (r : RelO o u) (rd : RelV d d') : RelV (o.getD d) (u.getD d') := by
  cases o with
  | none => cases u with
    | none => exact rd
    | some _ => exact (show False from r).elim
  | some _ => cases u with
    | none => exact (show False from r).elim
    | some _ => exact r

/-- raw tables of the same keys -/
theorem KV.val {kvs : List (κ × V)} {vs : List (κ × Value)} (r : KV kvs vs) (k : κ) : RelO (valV kvs k) (valueAt vs k) := by
  unfold KV at r
  induction r with
  | nil => exact True.intro
  | @cons p q ps qs h t ih =>
    obtain ⟨h1, h2⟩ := h
    by_cases e : p.1 = k
    · have e' : q.1 = k := h1.symm.trans e
      have b : valueAt (q :: qs) k = some q.2 := by simp [valueAt, List.find?_cons, e']
      rw [valV_pos e, b]; exact h2
    · have e' : ¬ q.1 = k := fun z => e (h1.trans z)
      have b : valueAt (q :: qs) k = valueAt qs k := by simp [valueAt, List.find?_cons, e']
      rw [valV_neg e, b]; exact ih
theorem KV.any {kvs : List (κ × V)} {vs : List (κ × Value)} (r : KV kvs vs) (k : κ) : (kvs.any fun kv => decide (kv.1 = k)) = vs.any fun kv => decide (kv.1 = k) := by
  unfold KV at r
  induction r with
  | nil => rfl
  | cons h t ih => rw [List.any_cons, List.any_cons, ih, h.1]
theorem KV.repl {kvs : List (κ × V)} {vs : List (κ × Value)} (r : KV kvs vs) (k : κ) {y : V} {u : Value} (ry : RelV y u) :
    KV (kvs.map fun kv => if kv.1 = k then (kv.1, y) else kv) (vs.map fun kv => if kv.1 = k then (kv.1, u) else kv) := by
  unfold KV at r ⊢
  induction r with
  | nil => exact .nil
  | @cons p q ps qs h t ih =>
    rw [List.map_cons, List.map_cons]
    refine .cons ?_ ih
    obtain ⟨h1, h2⟩ := h
    by_cases e : p.1 = k
    · rw [if_pos e, if_pos (h1.symm.trans e)]; exact ⟨h1, ry⟩
    · rw [if_neg e, if_neg (fun z => e (h1.trans z))]; exact ⟨h1, h2⟩
theorem KV.put {kvs : List (κ × V)} {vs : List (κ × Value)} (r : KV kvs vs) (k : κ) {y : V} {u : Value} (ry : RelV y u) : KV (putK kvs k y) (stored vs k u) := by
  unfold putK stored
  rw [r.any k]
  by_cases e : (vs.any fun kv => decide (kv.1 = k)) = true
  · rw [if_pos e, if_pos e]; exact r.repl k ry
  · rw [if_neg e, if_neg e]; exact Paired.snoc r ⟨rfl, ry⟩
theorem KV.drop {kvs : List (κ × V)} {vs : List (κ × Value)} (r : KV kvs vs) (k : κ) : KV (dropK kvs k) (without vs k) := by
  unfold KV at r ⊢
  unfold dropK without
  induction r with
  | nil => exact .nil
  | @cons p q ps qs h t ih =>
    obtain ⟨h1, h2⟩ := h
    rw [List.filter_cons, List.filter_cons]
    by_cases e : p.1 = k
    · have a : ¬ decide (p.1 ≠ k) = true := by simp [e]
      have b : ¬ decide (q.1 ≠ k) = true := by simp [h1.symm.trans e]
      rw [if_neg a, if_neg b]; exact ih
    · have e' : ¬ q.1 = k := fun z => e (h1.trans z)
      have a : decide (p.1 ≠ k) = true := by simp [e]
      have b : decide (q.1 ≠ k) = true := by simp [e']
      rw [if_pos a, if_pos b]; exact .cons ⟨h1, h2⟩ ih
theorem KV.keys {kvs : List (κ × V)} {vs : List (κ × Value)} (r : KV kvs vs) : kvs.map (·.1) = vs.map (·.1) := by
  unfold KV at r
  induction r with
  | nil => rfl
  | cons h t ih => rw [List.map_cons, List.map_cons, ih, h.1]
theorem KV.length {kvs : List (κ × V)} {vs : List (κ × Value)} (r : KV kvs vs) : kvs.length = vs.length := Paired.length r
end


/-! ### a tracked dict, its keys ints and texts or tuples of these -/
theorem kV_is {P : Program} {w : World} {k : Key} {u : Value} (r : RelV (kV k) u) : (mixKind P w).is k u = true := by
  cases k with
  | inl i => obtain ⟨t, e⟩ := (show ∃ t, u = Value.int i t from r); subst e; exact mixKind_int P w i t
  | inr x => obtain ⟨t, e⟩ := (show ∃ t, u = Value.str x t from r); subst e; exact mixKind_str P w x t
theorem items_are {P : Program} {w : World} : ∀ {ks : List Key} {us : List Value}, Vals (ks.map kV) us → ItemsAre (mixKind P w) ks us
  | [], _, r => by rw [List.map_nil] at r; cases r; exact .nil
  | k :: ks, _, r => by
    rw [List.map_cons] at r
    cases r with
    | cons h t => exact .cons (kV_is h) (items_are t)

/-- raw entries of a dict with tuple keys -/
abbrev KT (H : Hp) : List (List Key × V) → List (List Key × Addr × Value) → Prop := Paired fun p q => p.1 = q.1 ∧ H q.2.1 = some (.tup (p.1.map kV)) ∧ RelV p.2 q.2.2
theorem KT.val {H : Hp} {kvs : List (List Key × V)} {xs : List (List Key × Addr × Value)} (r : KT H kvs xs) (k : List Key) : RelO (valV kvs k) ((atKey xs k).map (·.2)) := by
  induction r with
  | nil => exact True.intro
  | @cons p q ps qs h t ih =>
    obtain ⟨h1, _, h2⟩ := h
    by_cases e : p.1 = k
    · have e' : q.1 = k := h1.symm.trans e
      have b : atKey (q :: qs) k = some q.2 := by simp [atKey, List.find?_cons, e']
      rw [valV_pos e, b]; exact h2
    · have e' : ¬ q.1 = k := fun z => e (h1.trans z)
      have b : atKey (q :: qs) k = atKey qs k := by simp [atKey, List.find?_cons, e']
      rw [valV_neg e, b]; exact ih
theorem KT.repl {H : Hp} {kvs : List (List Key × V)} {xs : List (List Key × Addr × Value)} (r : KT H kvs xs) (k : List Key) {y : V} {u : Value} (ry : RelV y u) :
    KT H (kvs.map fun kv => if kv.1 = k then (kv.1, y) else kv) (xs.map (putAt k u)) := by
  induction r with
  | nil => exact .nil
  | @cons p q ps qs h t ih =>
    rw [List.map_cons, List.map_cons]
    refine .cons ?_ ih
    obtain ⟨h1, h2, h3⟩ := h
    unfold putAt
    by_cases e : p.1 = k
    · rw [if_pos e, if_pos (h1.symm.trans e)]; exact ⟨h1, h2, ry⟩
    · rw [if_neg e, if_neg (fun z => e (h1.trans z))]; exact ⟨h1, h2, h3⟩
theorem KT.put {H : Hp} {kvs : List (List Key × V)} {xs : List (List Key × Addr × Value)} (r : KT H kvs xs) (k : List Key) {b : Addr} {y : V} {u : Value} (hb : H b = some (.tup (k.map kV))) (ry : RelV y u) :
    KT H (putK kvs k y) (storedH xs k b u) := by
  have e : (kvs.any fun kv => decide (kv.1 = k)) = (atKey xs k).isSome := by
    rw [valV_any, (r.val k).isSome_eq, Option.isSome_map]
  unfold putK storedH
  rw [e]
  by_cases q : (atKey xs k).isSome = true
  · rw [if_pos q, if_pos q]; exact r.repl k ry
  · rw [if_neg q, if_neg q]; exact Paired.snoc r ⟨rfl, hb, ry⟩
theorem KT.keeps {H H' : Hp} {kvs : List (List Key × V)} {xs : List (List Key × Addr × Value)} (r : KT H kvs xs) (ht : ∀ b ys, H b = some (.tup ys) → H' b = some (.tup ys)) : KT H' kvs xs :=
  Paired.mapP r fun _ _ z => ⟨z.1, ht _ _ z.2.1, z.2.2⟩

section
variable {P : Program} {w : World} {H : Hp} {h : Heap} {a : Addr}
theorem rd_of {u : HO} (ok : HOk P w H h) (e : Rd H a u) : ObjOk P w H h a u := e.ok ok
theorem dk_rd {kvs : List (Key × V)} (ok : HOk P w H h) (e : Rd H a (.dK kvs)) : kvs.length ≤ sizeLine ∧ (a == sysModules) = false ∧ ∃ vs, KV kvs vs ∧ h.DictOf (mixKind P w) a vs :=
  show ObjOk P w H h a (.dK kvs) from rd_of ok e
theorem dk_of {kvs : List (Key × V)} (ok : HOk P w H h) (e : H a = some (.dK kvs)) : kvs.length ≤ sizeLine ∧ (a == sysModules) = false ∧ ∃ vs, KV kvs vs ∧ h.DictOf (mixKind P w) a vs := dk_rd ok (.inl e)
/-- a tracked tuple of ints and texts is a key -/
theorem key_of {ks : List Key} (ok : HOk P w H h) (e : H a = some (.tup (ks.map kV))) : (tupleKind (mixKind P w)).is h ks a := by
  obtain ⟨_, its, r, o, h1, h2, n, h3⟩ := (show ObjOk P w H h a (.tup (ks.map kV)) from ok a _ e)
  exact ⟨o, its.toArray, n, h1, h2, h3, by simpa using items_are r⟩
theorem dt_rd {kvs : List (List Key × V)} (ok : HOk P w H h) (e : Rd H a (.dT kvs)) : kvs.length ≤ sizeLine ∧ (a == sysModules) = false ∧
    ∃ xs, KT H kvs xs ∧ h.DictOfH (tupleKind (mixKind P w)) a xs := by
  obtain ⟨z, y, xs, r, o, es, ep, h1, h2, h3, h4, h5⟩ := (show ObjOk P w H h a (.dT kvs) from rd_of ok e)
  refine ⟨z, y, xs, r, o, es, ep, h1, h2, h3, h4, fun x hx => ?_, h5⟩
  have all : ∀ {l : List (List Key × V)} {m : List (List Key × Addr × Value)}, KT H l m → ∀ x ∈ m, (tupleKind (mixKind P w)).is h x.1 x.2.1 := by
    intro l m q
    induction q with
    | nil => intro x hx; exact nomatch hx
    | @cons p q ps qs hq t ih =>
      intro x hx
      rcases List.mem_cons.mp hx with e | hx
      · subst e
        exact key_of ok (by rw [← hq.1]; exact hq.2.1)
      · exact ih x hx
  exact all r x hx
theorem dt_of {kvs : List (List Key × V)} (ok : HOk P w H h) (e : H a = some (.dT kvs)) : kvs.length ≤ sizeLine ∧ (a == sysModules) = false ∧
    ∃ xs, KT H kvs xs ∧ h.DictOfH (tupleKind (mixKind P w)) a xs := dt_rd ok (.inl e)
end

/-- what the dict at a holds at the key y -/
def DGet (H : Hp) (a : Addr) (y : V) (r : Option V) : Prop :=
  (∃ kvs k, Rd H a (.dK kvs) ∧ y = kV k ∧ r = valV kvs k) ∨ ∃ kvs k b, Rd H a (.dT kvs) ∧ y = .ref b ∧ H b = some (.tup (k.map kV)) ∧ r = valV kvs k
/-- the heap behind a[y] = v -/
def DPut (H : Hp) (a : Addr) (y v : V) (H' : Hp) : Prop :=
  (∃ kvs k, H a = some (.dK kvs) ∧ y = kV k ∧ kvs.length < sizeLine ∧ H' = upd H a (.dK (putK kvs k v))) ∨
  ∃ kvs k b, H a = some (.dT kvs) ∧ y = .ref b ∧ H b = some (.tup (k.map kV)) ∧ kvs.length < sizeLine ∧ H' = upd H a (.dT (putK kvs k v))
theorem DGet.k {H : Hp} {a : Addr} {kvs : List (Key × V)} {k : Key} (e : H a = some (.dK kvs)) : DGet H a (kV k) (valV kvs k) := .inl ⟨kvs, k, .inl e, rfl, rfl⟩
theorem DGet.t {H : Hp} {a b : Addr} {kvs : List (List Key × V)} {k : List Key} (e : H a = some (.dT kvs)) (eb : H b = some (.tup (k.map kV))) : DGet H a (.ref b) (valV kvs k) := .inr ⟨kvs, k, b, .inl e, rfl, eb, rfl⟩
theorem DPut.k {H : Hp} {a : Addr} {kvs : List (Key × V)} {k : Key} {v : V} (e : H a = some (.dK kvs)) (hl : kvs.length < sizeLine) : DPut H a (kV k) v (upd H a (.dK (putK kvs k v))) := .inl ⟨kvs, k, e, rfl, hl, rfl⟩
theorem DPut.t {H : Hp} {a b : Addr} {kvs : List (List Key × V)} {k : List Key} {v : V} (e : H a = some (.dT kvs)) (eb : H b = some (.tup (k.map kV))) (hl : kvs.length < sizeLine) :
    DPut H a (.ref b) v (upd H a (.dT (putK kvs k v))) := .inr ⟨kvs, k, b, e, rfl, eb, hl, rfl⟩


section
variable {X : Cx} {pins : List (Addr × Obj)} {σ : St} {H : Hp} {s : Shared} {a : Addr} {y v : V} {u r : Value} {o : Option V} {A : Around} {E : Value → Shared → Prop}

theorem Inv.big (I : Inv X pins σ H s) : sysModules < s.heap.objs.size := by
  have h : mainGlobals < s.heap.objs.size := (I.mod.glob.keeps I.bk).lt
  exact Nat.lt_trans (by decide) h

/-- d[y], there -/
theorem d_getItem {Q : Value → Shared → Prop} (hu : A.units + 1 < cLine) (I : Inv X pins σ H s) (g : DGet H a y (some v)) (ry : RelV y u) (h : ∀ w' s', Inv X pins σ H s' → RelV v w' → Q w' s') :
    wpAny (model X.prog X.w) A (getItem (.ref a) u) Q E s := by
  rcases g with ⟨kvs, k, e, ey, l⟩ | ⟨kvs, k, b, e, ey, eb, l⟩
  · subst ey
    obtain ⟨z, hd, vs, rel, dd⟩ := dk_rd I.hok e
    obtain ⟨w', hw, rw'⟩ := RelO.some_of (v := v) (o := valueAt vs k) (by rw [l]; exact rel.val k)
    exact wpAny_getItem_of (kV_is ry) dd.mapOf hw (h w' _ (I.tok _) rw')
  · subst ey
    cases (show u = Value.ref b from ry)
    obtain ⟨z, hd, xs, rel, dd⟩ := dt_rd I.hok e
    obtain ⟨w', hw, rw'⟩ := RelO.some_of (v := v) (o := (atKey xs k).map (·.2)) (by rw [l]; exact rel.val k)
    obtain ⟨p, hp, hp2⟩ := Option.map_eq_some_iff.mp hw
    refine wpAny_getItem_heap (tupleKind_room_in1 hu) (key_of I.hok eb) dd hp ?_
    rw [hp2]
    exact h w' _ (I.tok _) rw'
/-- a dict's object is replaced -/
theorem d_write {h' : Heap} {t' : Nat} {ob : HO} (I : Inv X pins σ H s) (mu : Mut (H a)) (hs : Heap.SameBut a s.heap h') (he : ∃ q, h'.get? a = some q) (new : ObjOk X.prog X.w (upd H a ob) h' a ob) :
    Inv X pins σ (upd H a ob) { s with heap := h', toks := t' } :=
  I.write (x := a) (e := a) mu (.inl rfl) (fun b q hb z => (hs.2 b hb).trans z) he new
theorem dk_new {P : Program} {w : World} {H' : Hp} {h' : Heap} {kvs : List (Key × V)} {vs : List (Key × Value)} (z : kvs.length ≤ sizeLine) (hd : (a == sysModules) = false) (rel : KV kvs vs) (dd : h'.DictOf (mixKind P w) a vs) :
    ObjOk P w H' h' a (.dK kvs) := ⟨z, hd, vs, rel, dd⟩
/-- d[y] = v -/
theorem d_setItem {H' : Hp} {Q : Unit → Shared → Prop} (hu : A.units + 1 < cLine) (I : Inv X pins σ H s) (g : DPut H a y v H') (ry : RelV y u) (rv : RelV v r) (h : ∀ s', Inv X pins σ H' s' → Q () s') :
    wpAny (model X.prog X.w) A (setItem (.ref a) u r) Q E s := by
  rcases g with ⟨kvs, k, e, ey, l, eH⟩ | ⟨kvs, k, b, e, ey, eb, l, eH⟩
  · subst ey eH
    obtain ⟨z, hd, vs, rel, dd⟩ := dk_of I.hok e
    have hz : vs.length ≤ sizeLine := by rw [← rel.length]; exact z
    have hl : (putK kvs k v).length ≤ sizeLine := by have := length_putK kvs k v; omega
    refine wpAny_setItem_pairs (hsz := hz) (kV_is ry) dd fun h' dd' hs => h _ ?_
    have he : ∃ q, h'.get? a = some q := let ⟨q, _, _, hq, _⟩ := dd'; ⟨q, hq⟩
    exact d_write I (by rw [e]; exact True.intro) hs he (dk_new hl hd (rel.put k rv) dd')
  · subst ey eH
    cases (show u = Value.ref b from ry)
    obtain ⟨z, hd, xs, rel, dd⟩ := dt_of I.hok e
    have hz : xs.length ≤ sizeLine := by rw [← Paired.length rel]; exact z
    have hl : (putK kvs k v).length ≤ sizeLine := by have := length_putK kvs k v; omega
    refine wpAny_setItem_heap (hsz := hz) (tupleKind_room_in1 hu) (key_of I.hok eb) dd fun h' dd' hs => h _ ?_
    obtain ⟨q, es, ep, hq, h2, h3, h4, _, h5⟩ := dd'
    refine d_write I (by rw [e]; exact True.intro) hs ⟨q, hq⟩ ⟨hl, hd, _, (rel.put k eb rv).keeps fun c ys ec => ?_, q, es, ep, hq, h2, h3, h4, h5⟩
    rw [upd_ne (ne_of ec e (fun z => nomatch z))]
    exact ec
end

section
variable {X : Cx} {pins : List (Addr × Obj)} {σ : St} {H : Hp} {s : Shared} {a : Addr} {kvs : List (Key × V)} {k : Key} {u : Value} {A : Around} {E : Value → Shared → Prop}
end


/-! ### readings and rules -/
/-- the element of a subscription, not a slice -/
def NoSl (i : Expr) : Prop := ∀ ov iv, subscripted i false ov iv = operate [ov, iv] (getItem ov iv)
theorem subD_of {prog : Program} {w : World} {A : Around} {E : Value → Shared → Prop} {s : Shared} {env : Env} {value slice : Expr} {pos : Pos} {T id : String} {Q : Value → Shared → Prop}
    (hl : typeLookup (.type T) "__getitem__" = pure (some (.builtin id))) (hs : NoSl slice)
    (h : wpAny (model prog w) A (eval value env) (fun o s₁ => wpAny (model prog w) A (eval slice env) (fun i s₂ => s₂.TypeIs o T ∧ wpAny (model prog w) A (getItem o i) Q E s₂) E s₁) E s) :
    wpAny (model prog w) A (eval (.Subscript value slice pos) env) Q E s := by
  refine Subscript_ (wpAny_mono h (fun o s₁ h₁ => wpAny_mono h₁ (fun i s₂ h₂ => ?_) fun _ _ x => x) fun _ _ x => x)
  obtain ⟨hT, h₂⟩ := h₂
  unfold subscriptTail
  refine wpAny_bind ?_
  rw [getitemInPython_of_ne hT.not_modules]
  refine wpAny_bind (wpAny_specialOf hT hl ?_)
  have fin : wpAny (model prog w) A (subscripted slice false o i) (fun r s₃ => wpAny (model prog w) A (letTemporaryGo value o r >>= fun _ => pure r) Q E s₃) E s₂ := by
    rw [hs o i]
    exact wpAny_operating (wpAny_mono h₂ (fun r s₃ h₃ => wpAny_bind (wpAny_letTemporaryGo (wpAny_pure h₃))) fun _ _ x => x)
  first
    | exact wpAny_pure (wpAny_bind fin)
    | exact wpAny_bind (wpAny_pure (wpAny_bind fin))
    | exact wpAny_bind fin

theorem dict_typeIs {X : Cx} {pins : List (Addr × Obj)} {σ : St} {H : Hp} {s : Shared} {a : Addr} {y : V} {o : Option V} (I : Inv X pins σ H s) (g : DGet H a y o) : s.TypeIs (.ref a) "dict" := by
  rcases g with ⟨kvs, k, e, _, _⟩ | ⟨kvs, k, b, e, _, _, _⟩
  · obtain ⟨_, _, vs, _, dd⟩ := dk_rd I.hok e
    exact dd.typeIs
  · obtain ⟨_, _, xs, _, dd⟩ := dt_rd I.hok e
    exact dd.typeIs
/-- d[y] -/
def tDGet (td ty : TE) : TE := fun σ H Q => td σ H fun x H1 => ty σ H1 fun y H2 => ∃ a v, x = .ref a ∧ DGet H2 a y (some v) ∧ Q v H2
/-- y in d, y not in d -/
def tDIn (ty td : TE) : TE := fun σ H Q => ty σ H fun y H1 => td σ H1 fun x H2 => ∃ a o, x = .ref a ∧ DGet H2 a y o ∧ Q (.bl o.isSome) H2
def tDNotIn (ty td : TE) : TE := fun σ H Q => ty σ H fun y H1 => td σ H1 fun x H2 => ∃ a o, x = .ref a ∧ DGet H2 a y o ∧ Q (.bl (!o.isSome)) H2
/-- d[y] = v -/
def sDPut (td ty tv : TE) : TS := fun D σ H => tv σ H fun v H1 => td σ H1 fun x H2 => ty σ H2 fun y H3 => ∃ a H4, x = .ref a ∧ DPut H3 a y v H4 ∧ D.nx σ H4
section
variable {X : Cx} {o i e value : Expr} {pos pos' tpos : Pos} {td ty tv : TE}
theorem pe_dget (hu : X.A.units + 1 < cLine) (ho : PE X o td) (hi : PE X i ty) (hs : NoSl i) : PE X (.Subscript o i pos) (tDGet td ty) := by
  intro pins s σ H Q I h
  refine subD_of PySem.F.slot_dict_getitem.lookup hs (thn (ho pins s σ H _ I h) fun u s1 ⟨x, H1, I1, rx, q1⟩ => thn (hi pins s1 σ H1 _ I1 q1) fun iv s2 ⟨y, H2, I2, ry, a, v, ex, g, q2⟩ => ?_)
  subst ex
  obtain rfl : u = Value.ref a := rx
  exact ⟨dict_typeIs I2 g, d_getItem hu I2 g ry fun w' s3 I3 rw' => ⟨v, H2, I3, rw', q2⟩⟩
theorem ps_dput (hu : X.A.units + 1 < cLine) (ho : PE X o td) (hi : PE X i ty) (hv : PE X value tv) (hs : swapsWith value (some (.Subscript o i pos')) pos.line X.env = pure false) :
    PS X (.Assign [.Subscript o i pos'] value pos) (sDPut td ty tv) := by
  intro pins s σ H D I h
  refine wpAny_Assign_Subscript (thn (hv pins s σ H _ I h) fun r s1 ⟨v, H1, I1, rv, q1⟩ => thn (ho pins s1 σ H1 _ I1 q1) fun u s2 ⟨x, H2, I2, rx, q2⟩ => thn (hi pins s2 σ H2 _ I2 q2) fun iv s3 ⟨y, H3, I3, ry, a, H4, ex, g, q3⟩ => ?_) hs
  subst ex
  obtain rfl : u = Value.ref a := rx
  exact d_setItem hu I3 g ry rv fun s4 I4 => ⟨σ, H4, I4, q3⟩
end


/-! ### displays -/
theorem dk_empty {P : Program} {w : World} {H : Hp} (h : Heap) (hb : sysModules < h.objs.size) : ObjOk P w H (h.push { cls := .type "dict", data := .dict #[] }) h.objs.size (.dK []) :=
  ⟨Nat.zero_le _, beq_eq_false_iff_ne.mpr (Ne.symm (Nat.ne_of_lt hb)), [], .nil, Heap.DictOf.new h⟩
/-- {}, to be a dict of the kind that is wanted -/
def tDNewK : TE := fun _ H Q => ∀ p, H p = none → Q (.ref p) (upd H p (.dK []))
section
variable {X : Cx} {pos : Pos}
theorem pe_dnewK : PE X (.Dict [] [] pos) tDNewK := fun pins s σ H Q I h =>
  wpAny_Dict_empty ⟨.ref s.heap.objs.size, _, I.laid (a := s.heap.objs.size) (o := .dK []) (t' := s.toks) (fun _ _ q => Heap.get?_push_of_some _ q) (Nat.le_refl _) (dk_empty s.heap I.big), rfl, h _ (I.hok.fresh (Nat.le_refl _))⟩
end

/-- the pairs of a display, from the left -/
def tPairs : List (TE × TE) → St → Hp → (List (V × V) → Hp → Prop) → Prop
  | [], _, H, Q => Q [] H
  | (tk, tv) :: r, σ, H, Q => tk σ H fun x H1 => tv σ H1 fun y H2 => tPairs r σ H2 fun ps H3 => Q ((x, y) :: ps) H3
abbrev VV : List (V × V) → List (Value × Value) → Prop := Paired fun p q => RelV p.1 q.1 ∧ RelV p.2 q.2
def PPs (X : Cx) (pos : Pos) (keys : List (Option Expr)) (values : List Expr) (trs : List (TE × TE)) : Prop :=
  ∀ (pins : List (Addr × Obj)) (s : Shared) (σ : St) (H : Hp) (Q : List (V × V) → Hp → Prop), Inv X pins σ H s → tPairs trs σ H Q →
    wpAny (model X.prog X.w) X.A (evalPairs (pairTrees keys values X.env pos)) (fun vs s' => ∃ ps H', Inv X pins σ H' s' ∧ VV ps vs ∧ Q ps H') X.xe s
theorem pps_nil {X : Cx} {pos : Pos} : PPs X pos [] [] [] := fun pins s σ H Q I h => pairTrees_nil_walk ⟨[], H, I, .nil, h⟩
theorem pps_cons {X : Cx} {pos : Pos} {k v : Expr} {ks : List (Option Expr)} {vs : List Expr} {tk tv : TE} {trs : List (TE × TE)} (hk : PE X k tk) (hv : PE X v tv) (hr : PPs X pos ks vs trs) :
    PPs X pos (some k :: ks) (v :: vs) ((tk, tv) :: trs) := fun pins s σ H Q I h =>
  pairTrees_cons_walk (thn (hk pins s σ H _ I h) fun u s1 ⟨x, H1, I1, rx, q1⟩ => thn (hv pins s1 σ H1 _ I1 q1) fun w2 s2 ⟨y, H2, I2, ry, q2⟩ =>
    thn (hr pins s2 σ H2 _ I2 q2) fun ws s3 ⟨ps, H3, I3, rel, q3⟩ => ⟨(x, y) :: ps, H3, I3, .cons ⟨rx, ry⟩ rel, q3⟩)

def mergeK (kvs more : List (Key × V)) : List (Key × V) := more.foldl (fun acc kv => putK acc kv.1 kv.2) kvs
theorem KV.merge : ∀ {more : List (Key × V)} {rs : List (Key × Value)} {kvs : List (Key × V)} {vs : List (Key × Value)}, KV more rs → KV kvs vs → KV (mergeK kvs more) (merged vs rs) := by
  intro more rs kvs vs r
  unfold KV at r
  induction r generalizing kvs vs with
  | nil => intro q; exact q
  | @cons p q ps qs h t ih =>
    intro r0
    have e : KV (putK kvs p.1 p.2) (stored vs q.1 q.2) := by
      have := r0.put p.1 h.2
      rw [← h.1]; exact this
    exact ih e
theorem length_mergeK : ∀ (more kvs : List (Key × V)), (mergeK kvs more).length ≤ kvs.length + more.length
  | [], kvs => by show kvs.length ≤ kvs.length + 0; omega
  | p :: r, kvs => by
    have h1 := length_mergeK r (putK kvs p.1 p.2)
    have h2 := length_putK kvs p.1 p.2
    show (mergeK (putK kvs p.1 p.2) r).length ≤ _
    rw [List.length_cons]; omega
theorem carries_of {P : Program} {w : World} : ∀ {kvs : List (Key × V)} {ws : List (Value × Value)}, VV (kvs.map fun kv => (kV kv.1, kv.2)) ws → ∃ rs, Carries (mixKind P w) ws rs ∧ KV kvs rs
  | [], _, r => by rw [List.map_nil] at r; cases r; exact ⟨[], True.intro, .nil⟩
  | p :: kvs, _, r => by
    rw [List.map_cons] at r
    cases r with
    | @cons a b as bs h t =>
      obtain ⟨rs, c, q⟩ := carries_of (P := P) (w := w) t
      obtain ⟨b1, b2⟩ := b
      exact ⟨(p.1, b2) :: rs, ⟨kV_is h.1, rfl, c⟩, .cons ⟨rfl, h.2⟩ q⟩
/-- {k: v, ..} with keys ints and texts; the new dict stands empty while the pairs are made -/
def tDisp (trs : List (TE × TE)) : TE := fun σ H Q => ∀ p, H p = none → tPairs trs σ (upd H p (.dK [])) fun ps H2 => H2 p = some (.dK []) ∧ ∃ kvs : List (Key × V), ps = kvs.map (fun kv => (kV kv.1, kv.2)) ∧ kvs.length ≤ 15 ∧ Q (.ref p) (upd H2 p (.dK (mergeK [] kvs)))
theorem pe_disp {X : Cx} {pos : Pos} {keys : List (Option Expr)} {values : List Expr} {trs : List (TE × TE)} (h : PPs X pos keys values trs) (hall : keys.all (·.isSome) = true) (hl : keys.length = values.length) (h0 : keys ≠ [])
    (h15 : keys.length ≤ 15) : PE X (.Dict keys values pos) (tDisp trs) := by
  intro pins s σ H Q I q
  have hn := I.hok.fresh (Nat.le_refl s.heap.objs.size)
  have I1 := I.laid (a := s.heap.objs.size) (o := .dK []) (h' := s.heap.push { cls := .type "dict", data := .dict #[] }) (t' := s.toks) (fun _ _ q => Heap.get?_push_of_some _ q) (Nat.le_refl _) (dk_empty s.heap I.big)
  refine wpAny_Dict_walk (knd := mixKind X.prog X.w) hall hl h0 h15 (thn (h pins _ σ _ _ I1 (q _ hn)) fun ws s2 ⟨ps, H2, I2, rel, e, kvs, ep, lk, q2⟩ => ?_)
  subst ep
  obtain ⟨rs, c, rk⟩ := carries_of (P := X.prog) (w := X.w) rel
  obtain ⟨z, hd, vs0, r0, dd⟩ := dk_of I2.hok e
  cases r0
  refine ⟨rs, c, dd, fun h' dd' hs => ⟨.ref s.heap.objs.size, _, ?_, rfl, q2⟩⟩
  have hz : (mergeK [] kvs).length ≤ sizeLine := by
    have h1 := length_mergeK kvs []
    rw [List.length_nil] at h1
    rw [sizeLine_eq]; omega
  have he : ∃ q, h'.get? s.heap.objs.size = some q := let ⟨q, _, _, hq, _⟩ := dd'; ⟨q, hq⟩
  exact d_write I2 (by rw [e]; exact True.intro) hs he (dk_new hz hd (rk.merge .nil) dd')


/-! ### methods -/
structure M2 (X : Cx) (o : Expr) (m : Str) (apos : Pos) (e f : Expr) (cpos : Pos) : Prop where
  base : attributeBase o m X.env (eval o X.env) = eval o X.env
  few : ((backTo cpos (starEach [e, f] X.env)).all (fun x => !x.1) && (backToKw cpos (keywordEach [] X.env)).all (fun x => x.1.isSome)
    && decide (([e, f] : List Expr).length + ([] : List Keyword).length + (if ([] : List Keyword).isEmpty then 0 else 1) < 30)) = true
  line : (apos.endLine == cpos.line) = true
  trees : backTo cpos (starEach [e, f] X.env) = [(false, eval e X.env), (false, eval f X.env)]

/-- a is a dict, whatever its keys -/
def IsD (H : Hp) (a : Addr) : Prop := (∃ kvs, Rd H a (.dK kvs)) ∨ ∃ kvs, Rd H a (.dT kvs)
theorem isD_at {X : Cx} {pins : List (Addr × Obj)} {σ : St} {H : Hp} {s : Shared} {a : Addr} (I : Inv X pins σ H s) (d : IsD H a) :
    s.TypeIs (.ref a) "dict" ∧ (∀ b, Value.ref a = .ref b → ∃ ob, s.heap.get? b = some ob ∧ ob.dict = none) ∧ (a == sysModules) = false := by
  rcases d with ⟨kvs, e⟩ | ⟨kvs, e⟩
  · obtain ⟨_, hd, vs, _, dd⟩ := dk_rd I.hok e
    refine ⟨dd.typeIs, fun b q => ?_, hd⟩
    cases q
    obtain ⟨ob, _, _, h1, h2, _⟩ := dd
    exact ⟨ob, h1, h2.2.1⟩
  · obtain ⟨_, hd, xs, _, dd⟩ := dt_rd I.hok e
    refine ⟨dd.typeIs, fun b q => ?_, hd⟩
    cases q
    obtain ⟨ob, _, _, h1, h2, _⟩ := dd
    exact ⟨ob, h1, h2.2.1⟩

section
variable {X : Cx} {pins : List (Addr × Obj)} {σ : St} {H : Hp} {s : Shared} {a : Addr} {y d : V} {u r : Value} {o : Option V} {A : Around} {E : Value → Shared → Prop}
/-- d.get(y, x) -/
theorem d_get2 {Q : Value → Shared → Prop} (hu : A.units + 1 < cLine) (I : Inv X pins σ H s) (g : DGet H a y o) (ry : RelV y u) (rd : RelV d r) (h : ∀ w' s', Inv X pins σ H s' → RelV (o.getD d) w' → Q w' s') :
    wpAny (model X.prog X.w) A (call (.builtin "dict.get") [.ref a, u, r]) Q E s := by
  rcases g with ⟨kvs, k, e, ey, l⟩ | ⟨kvs, k, b, e, ey, eb, l⟩
  · subst ey
    obtain ⟨z, hd, vs, rel, dd⟩ := dk_rd I.hok e
    refine call_meetsIn PySem.F.slot_dict_get dd.typeIs PySem.F.entry_dict_get (PySem.F.args_dict_get_3 _ _ _) (meets_dict_get_default (mixKind X.prog X.w) a (kV_is ry) hd r) ⟨_, dd.mapOf, h _ _ (I.tok _) ?_⟩
    rw [l]
    exact (rel.val k).getD rd
  · subst ey
    cases (show u = Value.ref b from ry)
    obtain ⟨z, hd, xs, rel, dd⟩ := dt_rd I.hok e
    refine call_meetsIn PySem.F.slot_dict_get dd.typeIs PySem.F.entry_dict_get (PySem.F.args_dict_get_3 _ _ _) (meetsH_dict_get_default (tupleKind (mixKind X.prog X.w)) a b hd r) ⟨tupleKind_room_in1 hu, k, xs, key_of I.hok eb, dd, h _ _ (I.tok _) ?_⟩
    rw [l]
    exact (rel.val k).getD rd
end

def tDGet1 (td ty : TE) : TE := fun σ H Q => td σ H fun x H1 => ∃ a, x = .ref a ∧ IsD H1 a ∧ ty σ H1 fun y H2 => ∃ o, DGet H2 a y o ∧ Q (o.getD .non) H2
def tDGet2 (td ty tx : TE) : TE := fun σ H Q => td σ H fun x H1 => ∃ a, x = .ref a ∧ IsD H1 a ∧ ty σ H1 fun y H2 => tx σ H2 fun z H3 => ∃ o, DGet H3 a y o ∧ Q (o.getD z) H3
/-- d.pop(k): there; d.pop(k, x): there or not -/
def tDPop1 (td ty : TE) : TE := fun σ H Q => td σ H fun x H1 => ∃ a, x = .ref a ∧ IsD H1 a ∧ ty σ H1 fun y H2 => ∃ kvs k v, H2 a = some (.dK kvs) ∧ y = kV k ∧ valV kvs k = some v ∧ Q v (upd H2 a (.dK (dropK kvs k)))
section
variable {X : Cx} {o e f : Expr} {apos cpos : Pos} {td ty tx : TE}
theorem pe_dget2 (hu : X.A.units + 1 < cLine) (ho : PE X o td) (he : PE X e ty) (hf : PE X f tx) (m : M2 X o "get" apos e f cpos) : PE X (.Call (.Attribute o "get" apos) [e, f] [] cpos) (tDGet2 td ty tx) := by
  intro pins s σ H Q I h
  refine wpAny_Call_method m.base m.few m.line PySem.F.plainAttrs_dict PySem.F.slot_dict_get PySem.F.type_dict_get (thn (ho pins s σ H _ I h) fun u s1 ⟨x, H1, I1, rx, a, ex, d, q1⟩ => ?_)
  subst ex
  obtain rfl : u = Value.ref a := rx
  obtain ⟨t1, t2, _⟩ := isD_at I1 d
  refine ⟨t1, t2, ?_⟩
  rw [m.trees]
  refine Calls.callWith_builtin rfl (Calls.evalArgs_plain (Calls.spliced_cons (thn (he pins s1 σ H1 _ I1 q1) fun iv s2 ⟨y, H2, I2, ry, q2⟩ =>
    Calls.spliced_cons (thn (hf pins s2 σ H2 _ I2 q2) fun fv s3 ⟨z, H3, I3, rz, ov, g, q3⟩ => Calls.spliced_nil ?_))))
  exact d_get2 hu I3 g ry rz fun w' s4 I4 rw' => ⟨_, H3, I4, rw', q3⟩
end

/-! ### dict(d): a copy -/
section
variable {X : Cx} {pins : List (Addr × Obj)} {σ : St} {H : Hp} {s : Shared} {a : Addr} {kvs : List (Key × V)} {A : Around} {E : Value → Shared → Prop}
end


section
variable {X : Cx} {pins : List (Addr × Obj)} {σ : St} {H : Hp} {s : Shared} {a : Addr} {y : V} {u : Value} {A : Around} {E : Value → Shared → Prop}
end
end L2

namespace Att
open PySem PySem.W PySem.Calls PyProof.Rows

/-! ### the script -/
theorem ints_of_wellAll {P : Params} {h : Heap} : ∀ (ns : List Int) (vs : List Value), WellAll P h vs (ns.map WData.int) → IntsAre vs ns := by
  intro ns
  induction ns with
  | nil =>
    intro vs w
    rw [List.map_nil] at w
    cases w
    exact .nil
  | cons n ns ih =>
    intro vs w
    rw [List.map_cons] at w
    cases w with
    | cons a b =>
      cases a
      exact .cons _ _ (ih _ b)

theorem script_of {l : OpenLaw} {n : Nat} (hn : l.most = some n) {P : Params} {h : Heap} {args : List WData} {vals : List Value}
    (hpre : l.row.toRowW.claim.pre args = true) (hwl : WellAll P h vals args) :
    ∃ a vs ns, vals = [Value.ref a] ∧ args = [WData.list (ns.map WData.int)] ∧ h.get? a = some { cls := .type "list", data := .seq vs.toArray } ∧ IntsAre vs ns ∧ ns.length ≤ n := by
  have hsh : WShape.hasAll [] args [.list .int] = true := (pre_splitW hpre).1
  have hc : l.pre.holds [] { args := args } = true := (pre_splitW hpre).2
  obtain ⟨d, r, rfl, h1, h2⟩ := hasAllW_cons hsh
  obtain rfl := hasAllW_nil h2
  obtain ⟨xs, rfl, h3⟩ := hasW_list h1
  obtain ⟨ns, rfl⟩ := items_int h3
  have hlen : ns.length ≤ n := by
    unfold OpenLaw.pre at hc
    have h4 : (WTm.not (.lt (.lit (.int (n : Int))) (.len (.arg 0)))).holds [] { args := [.list (ns.map .int)] } = true := by
      have h4 := (holds_andW hc).1
      rw [hn] at h4
      exact h4
    have h5 := condW_of h4 (w_not (w_lt w_lit (w_len_list (w_arg rfl))))
    rw [List.length_map] at h5
    refine Nat.le_of_not_lt fun q => ?_
    have q' : (n : Int) < ((ns.length : Nat) : Int) := by omega
    first
      | (rw [decide_eq_true q'] at h5; exact absurd h5 (by decide))
      | (simp at h5; omega)
  cases hwl with
  | cons w1 w2 =>
    cases w2
    cases w1 with
    | list ho hall => exact ⟨_, _, ns, rfl, rfl, ho, ints_of_wellAll ns _ hall, hlen⟩

theorem post_true (l : OpenLaw) (args : List WData) : l.row.toRowW.claim.post args (.bool true) args = true :=
  postW_of (r := l.row.toRowW) (X := (true == true))
    (show WShape.has [] (.bool true) .bool = true by first | rfl | decide | simp [WShape.has, WShape.arms, WShape.armsAll])
    (show (WTm.eq .res (.lit (.bool true))).value [] { args := args, res := some (.bool true), after := args } = some (.bool (true == true)) from w_eq_bool (w_res rfl) w_lit) rfl

/-! ### the attachment: holds_open's last premise (the goal 'hc' behind k_head) from a wpAny of the law's body -/
/-- the same from a codeAny of the CALL (for a layer whose function contracts speak of calls) -/
theorem attach_call {l : OpenLaw} {n : Nat} {q : Program} {loose : List Str} {XP : (Str → Option Value) → Heap → Prop} {YP : World → Heap → Prop} {d : DefRec}
    (hn : l.most = some n) (hdf : d.params.defaults = [])
    (call : ∀ (w : World) (s₀ s₁ : Shared) (mg mb : Str → Option Value) (fa : Addr) (o : Obj) (pm cd doc : Value) (a : Addr) (vs : List Value) (ns : List Int),
      Ground q loose [] XP w s₀ mg mb s₁.heap → YP w s₁.heap →
      s₁.heap.get? fa = some o → o.data = .func (docDef d.name d.params d.body d.scope pm cd doc) → s₁.heap.CodeRec cd d.name → mg d.name = some (.ref fa) →
      s₁.heap.get? a = some { cls := .type "list", data := .seq vs.toArray } → IntsAre vs ns → ns.length ≤ n → s₁.gens = #[] →
      codeAny (model l.prog w) callerA (.call (.ref fa) ⟨[.ref a], []⟩) (fun r s' => r = .ok (.ret (.bool true)) ∧ OldK s₁.heap s'.heap ∧ s'.os = s₁.os ∧ AllBare s'.gens) s₁) :
    WalkO q loose XP YP l.row.toRowW d [] (fun f vs => PySem.call f vs) := by
  intro w s₀ s₁ mg mb G Y fa o pm cd doc dV kV ho hd hcd hD hmg hg args vals as hpre hlay hrd hwl hlo
  obtain rfl : dV = .none := Dflts.none hD hdf
  obtain rfl : kV = .none := Dflts.noKw hD
  obtain ⟨a, vs, ns, rfl, rfl, hobj, hints, hlen⟩ := script_of hn hpre hwl
  refine enter_call (codeAny_mono (call w s₀ s₁ mg mb fa o pm cd doc a vs ns G Y ho (fd_plain hd) hcd hmg hobj hints hlen hg) fun r s' hq => ?_)
  obtain ⟨rfl, h2, h3, h4⟩ := hq
  exact ⟨.inl ⟨.bool true, .bool true, [], rfl, fun _ => rfl, .bool true, post_true l _, fun _ => ⟨List.Pairwise.nil, fun _ hm => (nomatch hm)⟩⟩, h2, h3, h4⟩

/-! ### rules over ANY heap (no ledger) from facts about the written part K: the library's own take a ledger (News) for what they write -/
section
variable {prog : Program} {w : World} {A : Around} {E : Value → Shared → Prop} {s : Shared} {K : Frag}

/-! the whole heap as the ledger: makes every rule that writes through a ledger a rule over any heap -/
def ledger (h : Heap) (L d : Addr) : List (Addr × Obj) := (List.range h.objs.size).filterMap fun a => if a = L ∨ a = d then none else (h.get? a).map fun o => (a, o)
end
end Att

namespace L2
open PySem PySem.Spec PyProof.Rows

theorem vals_ints : ∀ {vs : List Value} {ns : List Int}, IntsAre vs ns → Vals (ns.map V.int) vs
  | _, _, .nil => .nil
  | _, _, .cons n t h => .cons ⟨t, rfl⟩ (vals_ints h)

/-- nothing is tracked but the script, known to the object (or it is an object of the module) -/
def Only (H : Hp) : Prop := ∀ b, H b = none ∨ ∃ o xs, H b = some (.frz o (.lst xs))

/-- THE HEAD: the law's promise, at the heap behind the top. F, the promise of the law's def, may use that base is part of the heap (so K.In base, base.Ns mainGlobals mg stand in Mod) -/
theorem law_call {P : Program} {w : World} {K : PySem.W.Frag} {mg mb : Str → Option Value} {CX : CXT} {k : Nat} {fa a : Addr} {fd : FuncData} {x : Str} {sp : Sp} {s₁ : Shared} {vs : List Value} {ns : List Int}
    (KX : K.In s₁.heap) (hns : s₁.heap.Ns mainGlobals mg) (hb : s₁.heap.Ns builtinsNs mb) (hbb : ∀ x : Str, x ≠ "__name__" → mb x = bootBuiltins x) (hlim : s₁.heap.NoLimit) (hg : s₁.gens = #[])
    (ha : s₁.heap.get? a = some { cls := .type "list", data := .seq vs.toArray }) (hi : IntsAre vs ns) (hl : ns.length ≤ sizeLine) (hr : Room k callerA)
    (F : ∀ base : Heap, K.In base → base.Ns mainGlobals mg → FnOk P w K mg base CX k fa fd [x] sp) (hbind : ∀ (s : Shared) (u : Value), BindsTo s fd ⟨[u], []⟩ [(x, u)])
    (hsp : ∀ H : Hp, Only H → SqL K H a (ns.map V.int) → sp [.ref a] H (fun v _ => v = .bl true) fun _ _ _ => False)
    (hCX : ∀ H e s', CX [] H s₁ (fun _ _ _ => False) e s' → False) :
    codeAny (model P w) callerA (.call (.ref fa) ⟨[.ref a], []⟩) (fun r s' => r = .ok (.ret (.bool true)) ∧ OldK s₁.heap s'.heap ∧ s'.os = s₁.os ∧ AllBare s'.gens) s₁ := by
  have rv := vals_ints hi
  have lenV := hi.length
  -- from an abstract heap in which nothing but the script may be tracked
  have core : ∀ H : Hp, Only H → SqL K H a (ns.map V.int) → HOk P w H s₁.heap → (∀ b, H b ≠ none → b = a) → (H a ≠ none → K.lookup a = none) →
      codeAny (model P w) callerA (.call (.ref fa) ⟨[.ref a], []⟩) (fun r s' => r = .ok (.ret (.bool true)) ∧ OldK s₁.heap s'.heap ∧ s'.os = s₁.os ∧ AllBare s'.gens) s₁ := by
    intro H hO hS hok hA hK
    have base_of : ∀ {b : Addr} {o : Obj}, s₁.heap.get? b = some o → H b = none → (hidT s₁.heap H).get? b = some o := fun e n => hidT_get e n
    have noA : ∀ {b : Addr} {o : Obj} {es : Array DictEntry} {ep : Nat}, s₁.heap.get? b = some o → o.data = .dict es ep → H b = none := fun {b o es ep} e d => by
      cases q : H b with
      | none => rfl
      | some u =>
        have e' : b = a := hA b (by rw [q]; simp)
        subst e'
        rw [ha] at e; cases e
        have d' : Data.seq vs.toArray _ = Data.dict es ep := d
        cases d'
    have nsK : ∀ {b : Addr} {m : Str → Option Value}, s₁.heap.Ns b m → (hidT s₁.heap H).Ns b m := fun {b m} ⟨o, es, ep, e, d, r⟩ => ⟨o, es, ep, base_of e (noA e d), d, r⟩
    have hKb : K.In (hidT s₁.heap H) := fun b o e => base_of (KX b o e) (by
      cases q : H b with
      | none => rfl
      | some u =>
        have e' : b = a := hA b (by rw [q]; simp)
        subst e'
        rw [hK (by rw [q]; simp)] at e; cases e)
    have hM : Mod K mg (hidT s₁.heap H) := ⟨hKb, nsK hns, ⟨mb, nsK hb, hbb⟩, let ⟨mc, h1, h2⟩ := hlim; ⟨mc, nsK h1, h2⟩⟩
    have e0 : Env0 P w K mg (hidT s₁.heap H) callerA [] s₁ H := ⟨rfl, hM, fun b o e => of_hidT e, Nat.le_of_eq (hidT_size _ _), trivial, fun b hb => absurd (show b ∈ ([] : List Addr) from hb) (by simp), hok, .of_eq hg⟩
    refine codeAny_mono ((F _ hKb (nsK hns)).run callerA [] s₁ H ⟨[.ref a], []⟩ [.ref a] [.ref a] _ _ hr e0 (hbind s₁ (.ref a)) (.cons rfl .nil) (hsp H hO hS)) fun r s' h => ?_
    cases r with
    | error e => exact (hCX H e s' h).elim
    | ok fl =>
      cases fl with
      | next => exact False.elim h
      | brk => exact False.elim h
      | cont => exact False.elim h
      | ret u =>
        obtain ⟨v, H', os, bare, un, hok', r', q⟩ := h
        have q' : v = .bl true := q
        subst q'
        obtain rfl : u = Value.bool true := r'
        refine ⟨rfl, OldK.of_keep fun b o e => ?_, os, bare⟩
        cases q : H b with
        | none => exact un.keep b o e q (by intro z; exact absurd (show b ∈ ([] : List Addr) from z) (by simp)) (by simp)
        | some u =>
          rcases hO b with z | ⟨ob, xs, z⟩
          · rw [q] at z; cases z
          · have z2 := un.frzs b ob _ z
            obtain ⟨e1, _⟩ := hok b _ z
            obtain ⟨e2, _⟩ := hok' b _ z2
            rw [e] at e1; cases e1
            exact e2
  cases hk : K.lookup a with
  | some o =>
    -- the script is one of the module's own objects
    have e := KX a o hk
    rw [ha] at e
    cases e
    refine core (fun _ => none) (fun _ => .inl rfl) (.inr ⟨_, vs.toArray, _, hk, rfl, rfl, rfl, by rw [List.size_toArray, lenV]; exact hl, by simpa using rv⟩) (fun b u z => by have z' : (none : Option HO) = some u := z; cases z') (fun b z => absurd rfl z) fun z => absurd rfl z
  | none =>
    refine core (fun b => if b = a then some (.frz { cls := .type "list", data := .seq vs.toArray } (.lst (ns.map V.int))) else none) (fun b => ?_) (.inl (.inr ⟨{ cls := .type "list", data := .seq vs.toArray }, if_pos rfl⟩)) (fun b u z => ?_) (fun b z => ?_) fun _ => hk
    · by_cases hb : b = a
      · exact .inr ⟨_, _, if_pos hb⟩
      · exact .inl (if_neg hb)
    · by_cases hb : b = a
      · have z' := (if_pos hb).symm.trans z
        cases z'
        subst hb
        exact ⟨ha, by rw [List.length_map]; exact hl, vs, _, rv, ha⟩
      · have z' := (if_neg hb).symm.trans z
        cases z'
    · by_cases hb : b = a
      · exact hb
      · exact absurd (if_neg hb) z
end L2

namespace L2
open PySem PySem.Spec PyProof.Rows

/-- the goal that k_head leaves (case hc), from the law's promise. F gives the function object fd (K's own) once, then the promise over every base -/
theorem walk_of {l : PySem.W.OpenLaw} {n k : Nat} {q : Program} {loose : List Str} {XP : (Str → Option Value) → Heap → Prop} {YP : World → Heap → Prop} {d : DefRec} {K : Params → PySem.W.Frag} {CX : World → CXT} {sp : World → Sp} {x : Str}
    (hn : l.most = some n) (hn2 : n ≤ sizeLine) (hdf : d.params.defaults = []) (hr : Room k callerA)
    (hY : ∀ (w : World) (h : Heap), YP w h → (K w.params).In h)
    (F : ∀ (w : World) (mg : Str → Option Value) (fa : Addr) (h : Heap), (K w.params).In h → h.Ns mainGlobals mg → mg d.name = some (.ref fa) →
      ∃ fd : FuncData, (∀ (s : Shared) (u : Value), BindsTo s fd ⟨[u], []⟩ [(x, u)]) ∧
        ∀ base : Heap, (K w.params).In base → base.Ns mainGlobals mg → FnOk l.prog w (K w.params) mg base (CX w) k fa fd [x] (sp w))
    (hsp : ∀ (w : World) (H : Hp) (a : Addr) (ns : List Int), ns.length ≤ n → Only H → SqL (K w.params) H a (ns.map V.int) → sp w [.ref a] H (fun v _ => v = .bl true) fun _ _ _ => False)
    (hCX : ∀ (w : World) (H : Hp) (s : Shared) (e : Value) (s' : Shared), CX w [] H s (fun _ _ _ => False) e s' → False) :
    PySem.W.WalkO q loose XP YP l.row.toRowW d [] (fun f vs => PySem.call f vs) := by
  refine Att.attach_call hn hdf fun w s₀ s₁ mg mb fa o pm cd doc a vs ns G Y ho hd hcd hmg hobj hints hlen hg => ?_
  have KX := hY w _ Y
  obtain ⟨fd, hb, hF⟩ := F w mg fa _ KX G.T.g hmg
  exact law_call KX G.T.g G.T.b G.T.builtins G.T.nolimit hg hobj hints (Nat.le_trans hlen hn2) hr hF hb (fun H hO hS => hsp w H a ns hlen hO hS) fun H e s' => hCX w H s₁ e s'
/-- the same where the promise hangs on the written part alone: (sp := My.sp_law), no hole under a binder -/
theorem walk_ofK {l : PySem.W.OpenLaw} {n k : Nat} {q : Program} {loose : List Str} {XP : (Str → Option Value) → Heap → Prop} {YP : World → Heap → Prop} {d : DefRec} {K : Params → PySem.W.Frag} {CX : CXT} {sp : PySem.W.Frag → Sp} {x : Str}
    (hn : l.most = some n) (hn2 : n ≤ sizeLine) (hdf : d.params.defaults = []) (hr : Room k callerA)
    (hY : ∀ (w : World) (h : Heap), YP w h → (K w.params).In h)
    (F : ∀ (w : World) (mg : Str → Option Value) (fa : Addr) (h : Heap), (K w.params).In h → h.Ns mainGlobals mg → mg d.name = some (.ref fa) →
      ∃ fd : FuncData, (∀ (s : Shared) (u : Value), BindsTo s fd ⟨[u], []⟩ [(x, u)]) ∧
        ∀ base : Heap, (K w.params).In base → base.Ns mainGlobals mg → FnOk l.prog w (K w.params) mg base CX k fa fd [x] (sp (K w.params)))
    (hsp : ∀ (K : PySem.W.Frag) (H : Hp) (a : Addr) (ns : List Int), ns.length ≤ n → Only H → SqL K H a (ns.map V.int) → sp K [.ref a] H (fun v _ => v = .bl true) fun _ _ _ => False)
    (hCX : ∀ (H : Hp) (s : Shared) (e : Value) (s' : Shared), CX [] H s (fun _ _ _ => False) e s' → False) :
    PySem.W.WalkO q loose XP YP l.row.toRowW d [] (fun f vs => PySem.call f vs) :=
  walk_of (K := K) (CX := fun _ => CX) (sp := fun w => sp (K w.params)) hn hn2 hdf hr hY F (fun w H a ns h1 h2 h3 => hsp (K w.params) H a ns h1 h2 h3) fun _ H s e s' => hCX H s e s'
end L2
namespace L2
open PySem PySem.Spec PyProof.Rows

/-! ### the text by places -/
def defArgs (s : Stmt) : Arguments := match s with
  | .FunctionDef _ a _ _ _ _ _ _ _ _ => a
  | _ => { posonlyargs := [], args := [], vararg := none, kwonlyargs := [], kw_defaults := [], kwarg := none, defaults := [] }
def defBody (s : Stmt) : List Stmt := match s with
  | .FunctionDef _ _ b _ _ _ _ _ _ _ => b
  | _ => []
def defScope (s : Stmt) : Scope := match s with
  | .FunctionDef _ _ _ _ _ _ sc _ _ _ => sc
  | _ => { kind := .function, names := [], isGenerator := false, isCoroutine := false }

/-! ### no exception leaves a def -/
abbrev CX0 : CXT := fun _ _ _ _ _ _ => False
abbrev E0 : XK := fun _ _ _ => False
theorem pass0 {X : Cx} : Passes CX0 X E0 := fun _ _ _ _ _ _ _ h => h.elim

/-! ### a def (or method) of the text as it stands behind the top -/
structure Fun (K : PySem.W.Frag) (x qual : Str) (st : Stmt) (f : Addr) (fd : FuncData) : Prop where
  ex : ∃ (oc : Value) (od : Option Addr) (kV doc pm : Value) (an : Option Addr) (cdv ct : Value) (osl : Array (Option Value)),
    fd = PySem.W.fnOf x qual (defArgs st) (defBody st) (defScope st) .none kV doc pm an cdv ct ∧ K.lookup f = some ⟨oc, od, .func fd, osl⟩ ∧ PySem.W.codeIn K cdv qual = true
  kp : PySem.W.keepIn K (.ref f) = true
section
variable {P : Program} {w : World} {K : PySem.W.Frag} {mg : Str → Option Value} {base : Heap}
/-- THE RULE for a def: its body as a term of rules, and the reading of that term -/
theorem Fun.ok {x qual : Str} {st : Stmt} {f : Addr} {fd : FuncData} {N ps : List Str} {k : Nat} {sp : Sp} (F : Fun K x qual st f fd) (S : FnScope N ps (defScope st)) (len : ∀ vs H Q E, sp vs H Q E → vs.length = ps.length)
    (hbody : ∀ (cdv : Value) (A : Around) (outer : List Env) (s : Shared) (H : Hp) (vs : List V) (Q : VK) (E : XK), Room k (A.deeper (envOfC qual (defScope st) s.heap.objs.size f cdv)) → sp vs H Q E →
      ∃ t, PSs (cxOf CX0 P w K mg base N qual (defScope st) f cdv A outer s H E).nox (defBody st) t ∧ t { nx := fun _ H' => Q .non H', rt := Q } (start N vs) H) : FnOk P w K mg base CX0 (k + 1) f fd ps sp := by
  obtain ⟨oc, od, kV, doc, pm, an, cdv, ct, osl, rfl, lk, hcd⟩ := F.ex
  refine fn_of lk hcd S len fun A outer s H vs Q E hr hsp => ?_
  obtain ⟨t, h, q⟩ := hbody cdv A outer s H vs Q E hr hsp
  exact ⟨t, h.nox, q⟩
/-- how its arguments bind (no defaults): h is «fun _ _ _ _ _ _ us hl => match us, hl with | [_, _], _ => rfl», one _ a parameter -/
theorem Fun.binds {x qual : Str} {st : Stmt} {f : Addr} {fd : FuncData} {ps : List Str} (F : Fun K x qual st f fd)
    (h : ∀ (kV doc pm : Value) (an : Option Addr) (cdv ct : Value) (us : List Value), us.length = ps.length → bindArgs (PySem.W.fnOf x qual (defArgs st) (defBody st) (defScope st) .none kV doc pm an cdv ct) ⟨us, []⟩ = pure (ps.zip us)) : Binds K fd ps [] := by
  obtain ⟨oc, od, kV, doc, pm, an, cdv, ct, osl, rfl, lk, hcd⟩ := F.ex
  exact .all (h kV doc pm an cdv ct)
theorem fun_mk {x qual : Str} {st : Stmt} {f : Addr} {oc : Value} {od an : Option Addr} {osl : Array (Option Value)} {kV doc pm cdv ct : Value} (l : K.lookup f = some ⟨oc, od, .func (PySem.W.fnOf x qual (defArgs st) (defBody st) (defScope st) .none kV doc pm an cdv ct), osl⟩)
    (c : PySem.W.codeIn K cdv qual = true) (k : PySem.W.keepIn K (.ref f) = true) : Fun K x qual st f (PySem.W.fnOf x qual (defArgs st) (defBody st) (defScope st) .none kV doc pm an cdv ct) := ⟨⟨oc, od, kV, doc, pm, an, cdv, ct, osl, rfl, l, c⟩, k⟩
end
theorem hu_of {A : Around} {k : Nat} (hr : Room k A) : A.units + 1 < cLine := Nat.lt_of_le_of_lt (Nat.add_le_add_left (by decide : 1 ≤ 64) _) hr.units
/-! ### expressions in short: the name that stands in the i-th slot -/
section
variable {X : Cx}
end

/-! ### tests -/
theorem ite2 {c A B : Prop} [Decidable c] (h1 : c → A) (h2 : ¬ c → B) : if c then A else B := by
  by_cases h : c
  · rw [if_pos h]
    exact h1 h
  · rw [if_neg h]
    exact h2 h
/-! ### heaps -/
/-- all that was tracked is as it was -/
def Same (H H' : Hp) : Prop := ∀ b o, H b = some o → H' b = some o
theorem Same.refl (H : Hp) : Same H H := fun _ _ h => h
theorem Same.trans {H H1 H2 : Hp} (a : Same H H1) (b : Same H1 H2) : Same H H2 := fun c o h => b c o (a c o h)
theorem Same.free {H H' : Hp} (e : Same H H') {l : Addr} (h : H' l = Option.none) : H l = Option.none := by
  cases q : H l with
  | none => rfl
  | some o =>
    rw [e l o q] at h
    cases h
theorem Same.seq {K : PySem.W.Frag} {H H' : Hp} {a : Addr} {xs : List V} (e : Same H H') (h : SqL K H a xs) : SqL K H' a xs := by
  rcases h with (h | ⟨o, h⟩) | h
  · exact .inl (.inl (e _ _ h))
  · exact .inl (.inr ⟨o, e _ _ h⟩)
  · exact .inr h

/-! ### a dict's pairs: keys that differ -/
section
variable {κ : Type} [DecidableEq κ]
end
end L2

namespace L2
open PySem PySem.Spec PyProof.Rows

/-! ### builtins by name -/
theorem bt_isinstance : bootBuiltins "isinstance" = some (.builtin "isinstance") := by rfl
theorem bt_min : bootBuiltins "min" = some (.builtin "min") := by rfl
theorem bt_int : bootBuiltins "int" = some (.type "int") := by rfl
theorem bt_bool : bootBuiltins "bool" = some (.type "bool") := by rfl
theorem bt_list : bootBuiltins "list" = some (.type "list") := by rfl
theorem bt_tuple : bootBuiltins "tuple" = some (.type "tuple") := by rfl
/-! ### isinstance -/
def tyN (H : Hp) : V → Option String
  | .non => some "NoneType"
  | .bl _ => some "bool"
  | .int _ => some "int"
  | .str _ => some "str"
  | .ref a => match H a with
    | some (.lst _) => some "list"
    | some (.frz _ (.lst _)) => some "list"
    | some (.tup _) => some "tuple"
    | some (.dK _) => some "dict"
    | _ => none
  | _ => none
theorem tyN_of {K : PySem.W.Frag} {H : Hp} {x : V} {t : String} (h : tyN H x = some t) : TyOf K H x (.type t) := by
  unfold tyN at h
  split at h
  · cases h; exact .non
  · cases h; exact .bl _
  · cases h; exact .int _
  · cases h; exact .str _
  · split at h
    · cases h; exact .lst (by assumption)
    · cases h; exact .frz (by assumption)
    · cases h; exact .tup (by assumption)
    · cases h; exact .dK (by assumption)
    · cases h
  · cases h
def isaT (t c : String) : Option Bool :=
  match c with
  | "int" => if t = "int" then some true else if t = "bool" then some true else if t = "str" then some false else if t = "list" then some false else if t = "tuple" then some false else if t = "NoneType" then some false else none
  | "bool" => if t = "int" then some false else if t = "bool" then some true else if t = "str" then some false else if t = "list" then some false else if t = "tuple" then some false else if t = "NoneType" then some false else none
  | "str" => if t = "int" then some false else if t = "bool" then some false else if t = "str" then some true else if t = "list" then some false else if t = "tuple" then some false else if t = "NoneType" then some false else none
  | "list" => if t = "int" then some false else if t = "bool" then some false else if t = "str" then some false else if t = "list" then some true else if t = "tuple" then some false else if t = "NoneType" then some false else none
  | "tuple" => if t = "int" then some false else if t = "bool" then some false else if t = "str" then some false else if t = "list" then some false else if t = "tuple" then some true else if t = "NoneType" then some false else none
  | _ => none
theorem isaT_kit {K : PySem.W.Frag} {t c : String} {b : Bool} (h : isaT t c = some b) : PySem.W.kitOne K (.type t) (.type c) = some b := by
  unfold isaT at h
  split at h
  all_goals first
    | (cases h; done)
    | (repeat' split at h
       all_goals first
        | (cases h; subst_vars; rfl)
        | (cases h))
section
variable {X : Cx}
theorem call_isa : CallR X (.builtin "isinstance") (fun xs H Q => ∃ x t c b, xs = [x, .ty c] ∧ tyN H x = some t ∧ isaT t c = some b ∧ Q (.bl b) H) := by
  intro pins s σ H xs us Q I r h
  obtain ⟨x, t, c, b, rfl, h1, h2, q⟩ := h
  obtain ⟨u, u2, rfl, r1, r2⟩ := vals2 r
  obtain rfl : u2 = Value.type c := r2
  exact isinst_ok I r1 (tyN_of h1) (isaT_kit h2) fun tk => ⟨.bl b, H, I.tok _, rfl, q⟩
/-- a builtin's name as a value -/
theorem pe_ty {x : Str} {n : String} {pos : Pos} (hm : X.mg x = none) (hv : bootBuiltins x = some (.type n)) (hg : Gl X x := by rfl) (hn : x ≠ "__name__" := by decide) (hd : (x == ("__debug__" : Str)) = false := by decide) : PE X (.Name x pos) (tC (.ty n)) :=
  pe_bltn hg hm hv rfl hn hd
/-! ### the module's constants -/
def GI (mg : Str → Option Value) (x : Str) (i : Int) : Prop := ∃ t, mg x = some (.int i t)
theorem pe_gi {x : Str} {i : Int} {pos : Pos} (h : GI X.mg x i) (hg : Gl X x := by rfl) (hd : (x == ("__debug__" : Str)) = false := by decide) : PE X (.Name x pos) (tC (.int i)) := by
  obtain ⟨t, e⟩ := h
  exact pe_glob hg e ⟨t, rfl⟩ hd
/-! ### the text's own defs -/
def Good (P : Program) (w : World) (K : PySem.W.Frag) (mg : Str → Option Value) (base : Heap) (CX : CXT) (k : Nat) (x : Str) (ps : List Str) (sp : Sp) : Prop :=
  ∃ f fd, FnOk P w K mg base CX k f fd ps sp ∧ mg x = some (.ref f) ∧ PySem.W.keepIn K (.ref f) = true ∧ Binds K fd ps []
theorem pe_callG {CX : CXT} {k : Nat} {x : Str} {ps : List Str} {sp : Sp} {E : XK} {e : Expr} {es : List Expr} {t : TA} {p pos : Pos} (g : Good X.prog X.w X.K X.mg X.base CX k x ps sp) (hr : Room k X.A) (hx : Passes CX X E)
    (ha : PA X (e :: es) t) (hg : Gl X x := by rfl) (hdb : (x == ("__debug__" : Str)) = false := by decide) (he : starEach (e :: es) X.env = (false, eval e X.env) :: starEach es X.env := by rfl) (hpl : (backTo pos (starEach es X.env)).any (·.1) = false := by rfl) :
    PE X (.Call (.Name x p) (e :: es) [] pos) (tCall sp [] E t) := by
  obtain ⟨f, fd, F, hm, hk, hb⟩ := g
  exact pe_call F hr hg hm hk hb .nil hx ha hdb he hpl
/-- the def as it stands behind the top, under its name -/
def FunAt (K : PySem.W.Frag) (mg : Str → Option Value) (x : Str) (st : Stmt) (ps : List Str) : Prop := ∃ f fd, Fun K x x st f fd ∧ mg x = some (.ref f) ∧ Binds K fd ps []
theorem FunAt.good {P : Program} {w : World} {K : PySem.W.Frag} {mg : Str → Option Value} {base : Heap} {x : Str} {st : Stmt} {N ps : List Str} {k : Nat} {sp : Sp} (F : FunAt K mg x st ps) (S : FnScope N ps (defScope st)) (len : ∀ vs H Q E, sp vs H Q E → vs.length = ps.length)
    (hbody : ∀ (f : Addr) (cdv : Value) (A : Around) (outer : List Env) (s : Shared) (H : Hp) (vs : List V) (Q : VK) (E : XK), Room k (A.deeper (envOfC x (defScope st) s.heap.objs.size f cdv)) → sp vs H Q E →
      ∃ t, PSs (cxOf CX0 P w K mg base N x (defScope st) f cdv A outer s H E).nox (defBody st) t ∧ t { nx := fun _ H' => Q .non H', rt := Q } (start N vs) H) : Good P w K mg base CX0 (k + 1) x ps sp := by
  obtain ⟨f, fd, F, hm, hb⟩ := F
  exact ⟨f, fd, F.ok S len (hbody f), hm, F.kp, hb⟩
theorem Good.mono {P : Program} {w : World} {K : PySem.W.Frag} {mg : Str → Option Value} {base : Heap} {CX : CXT} {j k : Nat} {x : Str} {ps : List Str} {sp : Sp} (g : Good P w K mg base CX j x ps sp) (h : j ≤ k) : Good P w K mg base CX k x ps sp := by
  obtain ⟨f, fd, F, r⟩ := g
  exact ⟨f, fd, F.mono h, r⟩
/-! ### // by a divisor of below 9000 bits -/
def CDivL (i j : Int) : Prop := 0 < j ∧ j.natAbs.log2 < 9000
theorem op_fdivL : OpR X (binaryOp .FloorDiv) (rI CDivL fun i j => .int (i / j)) := opI fun i j _ _ _ _ _ hc q => by
  have h : i.fdiv j = i / j := Int.fdiv_eq_ediv_of_nonneg _ (Int.le_of_lt hc.1)
  exact floordiv_int (Int.ne_of_gt hc.1) (by rw [h]; exact q) (.inl (PyProof.noPylong_of_log2 hc.2))
end
/-! ### a list or a tuple -/
def SqS (K : PySem.W.Frag) (H : Hp) (a : Addr) (xs : List V) : Prop := SqL K H a xs ∨ SqT K H a xs
end L2

namespace L2
open PySem PySem.Spec PyProof.Rows
section
variable {X : Cx}
def rIxQ (K : PySem.W.Frag) : R2 := fun x y H Q => ∃ p xs i v, x = .ref p ∧ y = .int i ∧ SqS K H p xs ∧ atI xs i = some v ∧ Q v H
theorem rIxQ_eq (K : PySem.W.Frag) (p : Addr) (i : Int) (H : Hp) (Q : VK) : rIxQ K (.ref p) (.int i) H Q = ∃ xs, SqS K H p xs ∧ ∃ v, atI xs i = some v ∧ Q v H := by
  refine propext ⟨fun h => ?_, fun h => ?_⟩
  · obtain ⟨_, xs, _, v, e1, e2, h1, h2, q⟩ := h
    cases e1; cases e2
    exact ⟨xs, h1, v, h2, q⟩
  · obtain ⟨xs, h1, v, h2, q⟩ := h
    exact ⟨p, xs, i, v, rfl, rfl, h1, h2, q⟩
theorem ix_sq : IxR X (rIxQ X.K) := by
  intro value slice pins s σ H x y v u Q I rx ry q hs
  obtain ⟨p, xs, i, z, e1, e2, h | h, e3, q⟩ := q
  · exact ix_list value slice pins s σ H x y v u Q I rx ry ⟨p, xs, i, z, e1, e2, h, e3, q⟩ hs
  · exact ix_tup value slice pins s σ H x y v u Q I rx ry ⟨p, xs, i, z, e1, e2, h, e3, q⟩ hs
def rLenQ (K : PySem.W.Frag) : List V → Hp → VK → Prop := fun xs H Q => ∃ p ys, xs = [.ref p] ∧ SqS K H p ys ∧ Q (.int ys.length) H
theorem rLenQ_eq (K : PySem.W.Frag) (p : Addr) (H : Hp) (Q : VK) : rLenQ K [.ref p] H Q = ∃ ys, SqS K H p ys ∧ Q (.int ys.length) H := by
  refine propext ⟨fun h => ?_, fun h => ?_⟩
  · obtain ⟨_, ys, e, h1, q⟩ := h
    cases e
    exact ⟨ys, h1, q⟩
  · obtain ⟨ys, h1, q⟩ := h
    exact ⟨p, ys, rfl, h1, q⟩
theorem call_len_sq : CallR X (.builtin "len") (rLenQ X.K) := call_len_seq
def rListQ (K : PySem.W.Frag) : List V → Hp → VK → Prop := fun xs H Q => ∃ p ys, xs = [.ref p] ∧ SqS K H p ys ∧ ∀ l, H l = none → Q (.ref l) (upd H l (.lst ys))
theorem rListQ_eq (K : PySem.W.Frag) (p : Addr) (H : Hp) (Q : VK) : rListQ K [.ref p] H Q = ∃ ys, SqS K H p ys ∧ ∀ l, H l = none → Q (.ref l) (upd H l (.lst ys)) := by
  refine propext ⟨fun h => ?_, fun h => ?_⟩
  · obtain ⟨_, ys, e, h1, q⟩ := h
    cases e
    exact ⟨ys, h1, q⟩
  · obtain ⟨ys, h1, q⟩ := h
    exact ⟨p, ys, rfl, h1, q⟩
theorem call_list_sq : CallR X (.type "list") (rListQ X.K) := call_list_of
def rTupQ (K : PySem.W.Frag) : List V → Hp → VK → Prop := fun xs H Q => ∃ p ys, xs = [.ref p] ∧ ((SqL K H p ys ∧ ∀ l, H l = none → Q (.ref l) (upd H l (.tup ys))) ∨ (SqT K H p ys ∧ Q (.ref p) H))
theorem rTupQ_eq (K : PySem.W.Frag) (p : Addr) (H : Hp) (Q : VK) : rTupQ K [.ref p] H Q = ∃ ys, ((SqL K H p ys ∧ ∀ l, H l = none → Q (.ref l) (upd H l (.tup ys))) ∨ (SqT K H p ys ∧ Q (.ref p) H)) := by
  refine propext ⟨fun h => ?_, fun h => ?_⟩
  · obtain ⟨_, ys, e, h1⟩ := h
    cases e
    exact ⟨ys, h1⟩
  · obtain ⟨ys, h1⟩ := h
    exact ⟨p, ys, rfl, h1⟩
theorem call_tuple_sq : CallR X (.type "tuple") (rTupQ X.K) := call_tuple_of
/-! isinstance -/
def isa (H : Hp) (x : V) (c : String) : Option Bool := (tyN H x).bind fun t => isaT t c
def rIsa : List V → Hp → VK → Prop := fun xs H Q => ∃ x t c b, xs = [x, .ty c] ∧ tyN H x = some t ∧ isaT t c = some b ∧ Q (.bl b) H
theorem call_isaQ : CallR X (.builtin "isinstance") rIsa := call_isa
theorem rIsa_eq (x : V) (c : String) (H : Hp) (Q : VK) : rIsa [x, .ty c] H Q = ∃ b, isa H x c = some b ∧ Q (.bl b) H := by
  refine propext ⟨fun h => ?_, fun h => ?_⟩
  · obtain ⟨x', t, c', b, e, h1, h2, q⟩ := h
    cases e
    exact ⟨b, by unfold isa; rw [h1]; exact h2, q⟩
  · obtain ⟨b, h1, q⟩ := h
    unfold isa at h1
    cases e : tyN H x with
    | none => rw [e] at h1; cases h1
    | some t => rw [e] at h1; exact ⟨x, t, c, b, rfl, e, h1, q⟩
theorem rIsa_some {x : V} {c : String} {b : Bool} {H : Hp} {Q : VK} (h : isa H x c = some b) : (∃ b', isa H x c = some b' ∧ Q (.bl b') H) = Q (.bl b) H := by
  refine propext ⟨fun ⟨_, e, q⟩ => ?_, fun q => ⟨b, h, q⟩⟩
  rw [h] at e; cases e; exact q
theorem isa_int_int (H : Hp) (i : Int) : isa H (.int i) "int" = some true := by rfl
theorem isa_int_bool (H : Hp) (i : Int) : isa H (.int i) "bool" = some false := by rfl
theorem isa_str_str (H : Hp) (x : Str) : isa H (.str x) "str" = some true := by rfl
theorem rIsa_ii (i : Int) (H : Hp) (Q : VK) : rIsa [.int i, .ty "int"] H Q = Q (.bl true) H := by rw [rIsa_eq, rIsa_some (isa_int_int H i)]
theorem rIsa_ib (i : Int) (H : Hp) (Q : VK) : rIsa [.int i, .ty "bool"] H Q = Q (.bl false) H := by rw [rIsa_eq, rIsa_some (isa_int_bool H i)]
theorem rIsa_ss (x : Str) (H : Hp) (Q : VK) : rIsa [.str x, .ty "str"] H Q = Q (.bl true) H := by rw [rIsa_eq, rIsa_some (isa_str_str H x)]
theorem rIsa_ref (a : Addr) (c : String) (H : Hp) (Q : VK) : rIsa [.ref a, .ty c] H Q = ∃ b, isa H (.ref a) c = some b ∧ Q (.bl b) H := rIsa_eq _ _ _ _
theorem tyV_list (K : PySem.W.Frag) (p : Addr) (H : Hp) : tyV K "list" (.ref p) H = ∃ xs, SqL K H p xs := by
  unfold tyV
  refine propext ⟨fun h => ?_, fun h => .inl ⟨rfl, h⟩⟩
  rcases h with ⟨_, h⟩ | ⟨e, _⟩ | ⟨e, _⟩ | ⟨e, _⟩
  · exact h
  · exact absurd e (by decide)
  · exact absurd e (by decide)
  · exact absurd e (by decide)
theorem tyV_str (K : PySem.W.Frag) (x : Str) (H : Hp) : tyV K "str" (.str x) H = True := propext ⟨fun _ => trivial, fun _ => rfl⟩
theorem rAppend_eq (l : Addr) (y : V) (H : Hp) (Q : VK) : rAppend (.ref l) [y] H Q = ∃ xs, H l = some (.lst xs) ∧ xs.length < sizeLine ∧ Q .non (upd H l (.lst (xs ++ [y]))) := by
  refine propext ⟨fun h => ?_, fun h => ?_⟩
  · obtain ⟨_, xs, _, e1, e2, h⟩ := h
    cases e1; cases e2
    exact ⟨xs, h⟩
  · obtain ⟨xs, h⟩ := h
    exact ⟨l, xs, y, rfl, rfl, h⟩
theorem rReverse_eq (l : Addr) (H : Hp) (Q : VK) : rReverse (.ref l) [] H Q = ∃ xs, H l = some (.lst xs) ∧ Q .non (upd H l (.lst xs.reverse)) := by
  refine propext ⟨fun h => ?_, fun h => ?_⟩
  · obtain ⟨_, xs, e1, _, h⟩ := h
    cases e1
    exact ⟨xs, h⟩
  · obtain ⟨xs, h⟩ := h
    exact ⟨l, xs, rfl, rfl, h⟩
def rMin2 : List V → Hp → VK → Prop := fun xs H Q => ∃ i j, xs = [.int i, .int j] ∧ Q (.int (if j < i then j else i)) H
theorem rMin2_eq (i j : Int) (H : Hp) (Q : VK) : rMin2 [.int i, .int j] H Q = Q (.int (if j < i then j else i)) H := by
  refine propext ⟨fun h => ?_, fun h => ⟨i, j, rfl, h⟩⟩
  obtain ⟨_, _, e, h⟩ := h
  cases e
  exact h
theorem call_min2Q (hc : X.calm = true) : CallR X (.builtin "min") rMin2 := call_min2 hc
def rMax2 : List V → Hp → VK → Prop := fun xs H Q => ∃ i j, xs = [.int i, .int j] ∧ Q (.int (if j > i then j else i)) H
theorem rMax2_eq (i j : Int) (H : Hp) (Q : VK) : rMax2 [.int i, .int j] H Q = Q (.int (if j > i then j else i)) H := by
  refine propext ⟨fun h => ?_, fun h => ⟨i, j, rfl, h⟩⟩
  obtain ⟨_, _, e, h⟩ := h
  cases e
  exact h
def rInt1 : List V → Hp → VK → Prop := fun xs H Q => (∃ i, xs = [.int i] ∧ Q (.int i) H) ∨ ∃ k, xs = [.bl k] ∧ Q (.int (if k then 1 else 0)) H
theorem rInt1_int (i : Int) (H : Hp) (Q : VK) : rInt1 [.int i] H Q = Q (.int i) H := by
  refine propext ⟨fun h => ?_, fun h => .inl ⟨i, rfl, h⟩⟩
  rcases h with ⟨_, e, h⟩ | ⟨_, e, h⟩
  · cases e; exact h
  · cases e
theorem rInt1_bl (k : Bool) (H : Hp) (Q : VK) : rInt1 [.bl k] H Q = Q (.int (if k then 1 else 0)) H := by
  refine propext ⟨fun h => ?_, fun h => .inr ⟨k, rfl, h⟩⟩
  rcases h with ⟨_, e, h⟩ | ⟨_, e, h⟩
  · cases e
  · cases e; exact h
theorem call_intQ : CallR X (.type "int") rInt1 := call_int1
theorem cxOf_K (CX : CXT) (P : Program) (w : World) (K : PySem.W.Frag) (mg : Str → Option Value) (base : Heap) (N : List Str) (qual : Str) (scope : Scope) (f : Addr) (cd : Value) (A : Around) (outer : List Env) (s : Shared) (H : Hp) (E : XK) :
    (cxOf CX P w K mg base N qual scope f cd A outer s H E).K = K := rfl
theorem sl_sq : SlR X (rSlL X.K) := sl_list
/-! ### a loop over a list or a tuple -/
variable {tg : Expr}
def iSq (K : PySem.W.Frag) (tl : TE) : TI := fun σ H R => tl σ H fun x H1 => ∃ a, x = .ref a ∧ (((∃ xs, SqL K H1 a xs) ∧ R (Itl K a) H1) ∨ ((∃ xs, SqT K H1 a xs) ∧ R (Itt K a) H1))
theorem pi_sq {l : Expr} {tl : TE} (hl : PE X l tl) : PI X tg l (iSq X.K tl) := by
  intro pins s σ H R I h
  refine thn (hl pins s σ H _ I h) fun v s1 ⟨x, H1, I1, r1, q1⟩ => ?_
  obtain ⟨a, e, q1⟩ := q1
  subst e
  cases r1
  rcases q1 with ⟨⟨xs, hq⟩, q⟩ | ⟨⟨xs, hq⟩, q⟩
  · obtain ⟨its, rv, p, hz⟩ := I1.list hq
    refine wpAny_pyIter_list p.isList ?_
    refine ⟨s1.heap.objs.size, [s1.heap.objs.size], _, _, H1, rfl, I1.kept (t' := s1.toks) fun b o e => Heap.get?_push_of_some _ e, turn_list a _, ⟨_, Heap.get?_push_size _ rfl, rfl, rfl⟩, fun b hb => ?_, q⟩
    have e : b = s1.heap.objs.size := by simpa using hb
    subst e
    exact I1.fpOk (Nat.le_refl _) (I1.hok.fresh (Nat.le_refl _))
  · obtain ⟨its, rv, p, hz⟩ := I1.tuple hq
    refine wpAny_pyIter_tuple (show s1.heap.IsTuple a its.toArray from p) ?_
    refine ⟨s1.heap.objs.size, [s1.heap.objs.size], _, _, H1, rfl, I1.kept (t' := s1.toks) fun b o e => Heap.get?_push_of_some _ e, turn_tuple a _, ⟨_, Heap.get?_push_size _ rfl, rfl, rfl⟩, fun b hb => ?_, q⟩
    have e : b = s1.heap.objs.size := by simpa using hb
    subst e
    exact I1.fpOk (Nat.le_refl _) (I1.hok.fresh (Nat.le_refl _))
end
theorem Same.seqT {K : PySem.W.Frag} {H H' : Hp} {a : Addr} {xs : List V} (e : Same H H') (h : SqT K H a xs) : SqT K H' a xs := by
  rcases h with (h | ⟨o, h⟩) | h
  · exact .inl (.inl (e _ _ h))
  · exact .inl (.inr ⟨o, e _ _ h⟩)
  · exact .inr h
theorem Same.sq {K : PySem.W.Frag} {H H' : Hp} {a : Addr} {xs : List V} (e : Same H H') (h : SqS K H a xs) : SqS K H' a xs := h.elim (fun h => .inl (e.seq h)) fun h => .inr (e.seqT h)
theorem Same.new {H : Hp} {a : Addr} {o : HO} (h : H a = none) : Same H (upd H a o) := fun b u e => by rw [upd_ne (ne_of_none e h)]; exact e
theorem SqS.of {K : PySem.W.Frag} {H : Hp} {a : Addr} {xs : List V} (h : H a = some (.lst xs)) : SqS K H a xs := .inl (SqL.of h)
theorem SqS.ofT {K : PySem.W.Frag} {H : Hp} {a : Addr} {xs : List V} (h : H a = some (.tup xs)) : SqS K H a xs := .inr (SqT.of h)
theorem for_sq {K : PySem.W.Frag} {a : Addr} {xs : List V} {g : TG} {tb : TS} {D : Ends} {σ : St} {H : Hp} (hS : SqS K H a xs) (Pv : Nat → St → Hp → Prop) (h0 : Pv 0 σ H) (hl : ∀ i σ H2, i ≤ xs.length → Pv i σ H2 → Same H H2)
    (hs : ∀ i x σ H, xs[i]? = some x → Pv i σ H → g x σ H fun σ2 H2 => tb { D with nx := Pv (i + 1), ct := Pv (i + 1), bk := D.nx } σ2 H2) (hd : ∀ σ H, Pv xs.length σ H → D.nx σ H) :
    ((∃ xs, SqL K H a xs) ∧ ∃ W : Nat → Nat → St → Hp → Prop, (∃ m, W 0 m σ H) ∧ ∀ i m σ H, W i m σ H →
      ((Itl K a).stop i H ∧ D.nx σ H) ∨ ((Itl K a).go i H ∧ ∃ N : St → Hp → Prop, (∀ σ' H', N σ' H' → ∃ m', m' < m ∧ W (i + 1) m' σ' H') ∧ ∀ x H', (Itl K a).yld i H x H' → g x σ H' fun σ2 H2 => tb { D with nx := N, ct := N, bk := D.nx } σ2 H2)) ∨
    ((∃ xs, SqT K H a xs) ∧ ∃ W : Nat → Nat → St → Hp → Prop, (∃ m, W 0 m σ H) ∧ ∀ i m σ H, W i m σ H →
      ((Itt K a).stop i H ∧ D.nx σ H) ∨ ((Itt K a).go i H ∧ ∃ N : St → Hp → Prop, (∀ σ' H', N σ' H' → ∃ m', m' < m ∧ W (i + 1) m' σ' H') ∧ ∀ x H', (Itt K a).yld i H x H' → g x σ H' fun σ2 H2 => tb { D with nx := N, ct := N, bk := D.nx } σ2 H2)) := by
  rcases hS with h | h
  · exact .inl ⟨⟨xs, h⟩, for_list Pv h0 (fun i σ H2 hi p => (hl i σ H2 hi p).seq h) hs hd⟩
  · exact .inr ⟨⟨xs, h⟩, for_tup Pv h0 (fun i σ H2 hi p => (hl i σ H2 hi p).seqT h) hs hd⟩

/-! ### loops as wrappers that a simp set leaves alone -/
def ForR (lo : Int) (n : Nat) (g : TG) (tb : TS) (D : Ends) (σ : St) (H : Hp) : Prop := ∃ W : Nat → Nat → St → Hp → Prop, (∃ m, W 0 m σ H) ∧ ∀ i m σ H, W i m σ H →
  ((Itr lo n).stop i H ∧ D.nx σ H) ∨ ((Itr lo n).go i H ∧ ∃ N : St → Hp → Prop, (∀ σ' H', N σ' H' → ∃ m', m' < m ∧ W (i + 1) m' σ' H') ∧ ∀ x H', (Itr lo n).yld i H x H' → g x σ H' fun σ2 H2 => tb { D with nx := N, ct := N, bk := D.nx } σ2 H2)
theorem ForR.by {lo : Int} {n : Nat} {g : TG} {tb : TS} {D : Ends} {σ : St} {H : Hp} (Pv : Nat → St → Hp → Prop) (h0 : Pv 0 σ H)
    (hs : ∀ i σ H, i < n → Pv i σ H → g (.int (lo + i)) σ H fun σ2 H2 => tb { D with nx := Pv (i + 1), ct := Pv (i + 1), bk := D.nx } σ2 H2) (hd : ∀ σ H, Pv n σ H → D.nx σ H) : ForR lo n g tb D σ H := for_range Pv h0 hs hd
def ForS (K : PySem.W.Frag) (a : Addr) (g : TG) (tb : TS) (D : Ends) (σ : St) (H : Hp) : Prop :=
    ((∃ xs, SqL K H a xs) ∧ ∃ W : Nat → Nat → St → Hp → Prop, (∃ m, W 0 m σ H) ∧ ∀ i m σ H, W i m σ H →
      ((Itl K a).stop i H ∧ D.nx σ H) ∨ ((Itl K a).go i H ∧ ∃ N : St → Hp → Prop, (∀ σ' H', N σ' H' → ∃ m', m' < m ∧ W (i + 1) m' σ' H') ∧ ∀ x H', (Itl K a).yld i H x H' → g x σ H' fun σ2 H2 => tb { D with nx := N, ct := N, bk := D.nx } σ2 H2)) ∨
    ((∃ xs, SqT K H a xs) ∧ ∃ W : Nat → Nat → St → Hp → Prop, (∃ m, W 0 m σ H) ∧ ∀ i m σ H, W i m σ H →
      ((Itt K a).stop i H ∧ D.nx σ H) ∨ ((Itt K a).go i H ∧ ∃ N : St → Hp → Prop, (∀ σ' H', N σ' H' → ∃ m', m' < m ∧ W (i + 1) m' σ' H') ∧ ∀ x H', (Itt K a).yld i H x H' → g x σ H' fun σ2 H2 => tb { D with nx := N, ct := N, bk := D.nx } σ2 H2))
theorem ForS.by {K : PySem.W.Frag} {a : Addr} {xs : List V} {g : TG} {tb : TS} {D : Ends} {σ : St} {H : Hp} (hS : SqS K H a xs) (Pv : Nat → St → Hp → Prop) (h0 : Pv 0 σ H) (hl : ∀ i σ H2, i ≤ xs.length → Pv i σ H2 → Same H H2)
    (hs : ∀ i x σ H, xs[i]? = some x → Pv i σ H → g x σ H fun σ2 H2 => tb { D with nx := Pv (i + 1), ct := Pv (i + 1), bk := D.nx } σ2 H2) (hd : ∀ σ H, Pv xs.length σ H → D.nx σ H) : ForS K a g tb D σ H := for_sq hS Pv h0 hl hs hd
def Wh (W : Nat → St → Hp → Prop) (m : Nat) (tb : TS) (D : Ends) (σ : St) (H1 : Hp) : Prop := ∃ N : St → Hp → Prop, (∀ σ' H', N σ' H' → ∃ m', m' < m ∧ W m' σ' H') ∧ tb { D with nx := N, ct := N, bk := D.nx } σ H1
theorem Wh.by {W : Nat → St → Hp → Prop} {m : Nat} {tb : TS} {D : Ends} {σ : St} {H1 : Hp} (h : tb { D with nx := fun σ' H' => ∃ m', m' < m ∧ W m' σ' H', ct := fun σ' H' => ∃ m', m' < m ∧ W m' σ' H', bk := D.nx } σ H1) : Wh W m tb D σ H1 :=
  ⟨_, fun _ _ x => x, h⟩
theorem ForR.go {lo : Int} {n : Nat} {g : TG} {tb : TS} {D : Ends} {σ : St} {H : Hp} (Pv : Nat → St → Hp → Prop) (h0 : Pv 0 σ H)
    (hs : ∀ (i : Nat) (σ : St) (H : Hp) (N : St → Hp → Prop), i < n → Pv i σ H → (∀ σ' H', Pv (i + 1) σ' H' → N σ' H') → g (.int (lo + i)) σ H fun σ2 H2 => tb { D with nx := N, ct := N, bk := D.nx } σ2 H2) (hd : ∀ σ H, Pv n σ H → D.nx σ H) : ForR lo n g tb D σ H :=
  ForR.by Pv h0 (fun i σ H hi p => hs i σ H _ hi p fun _ _ q => q) hd
theorem ForS.go {K : PySem.W.Frag} {a : Addr} {xs : List V} {g : TG} {tb : TS} {D : Ends} {σ : St} {H : Hp} (hS : SqS K H a xs) (Pv : Nat → St → Hp → Prop) (h0 : Pv 0 σ H) (hl : ∀ i σ H2, i ≤ xs.length → Pv i σ H2 → Same H H2)
    (hs : ∀ (i : Nat) (x : V) (σ : St) (H : Hp) (N : St → Hp → Prop), xs[i]? = some x → Pv i σ H → (∀ σ' H', Pv (i + 1) σ' H' → N σ' H') → g x σ H fun σ2 H2 => tb { D with nx := N, ct := N, bk := D.nx } σ2 H2) (hd : ∀ σ H, Pv xs.length σ H → D.nx σ H) : ForS K a g tb D σ H :=
  ForS.by hS Pv h0 hl (fun i x σ H hi p => hs i x σ H _ hi p fun _ _ q => q) hd
theorem Wh.go {W : Nat → St → Hp → Prop} {m : Nat} {tb : TS} {D : Ends} {σ : St} {H1 : Hp} (h : ∀ N : St → Hp → Prop, (∀ m' σ' H', m' < m → W m' σ' H' → N σ' H') → tb { D with nx := N, ct := N, bk := D.nx } σ H1) : Wh W m tb D σ H1 :=
  Wh.by (h _ fun m' σ' H' hm w => ⟨m', hm, w⟩)
end L2

namespace L2
open PySem PySem.Spec PyProof.Rows
/-! ### the readings at known values, for simp -/
theorem rd_var0 (v : V) (r : St) (H : Hp) (Q : VK) : tVar 0 (some v :: r) H Q = Q v H := by
  refine propext ⟨fun ⟨_, e, q⟩ => ?_, fun q => ⟨v, rfl, q⟩⟩
  cases e; exact q
theorem rd_varS (i : Nat) (o : Option V) (r : St) (H : Hp) (Q : VK) : tVar (i + 1) (o :: r) H Q = tVar i r H Q := rfl
theorem rd_c (v : V) (σ : St) (H : Hp) (Q : VK) : tC v σ H Q = Q v H := rfl
theorem rd_op (r : R2) (ta tb : TE) (σ : St) (H : Hp) (Q : VK) : tOp r ta tb σ H Q = ta σ H fun x H1 => tb σ H1 fun y H2 => r x y H2 Q := rfl
theorem rd_un (r : V → Hp → VK → Prop) (ta : TE) (σ : St) (H : Hp) (Q : VK) : tUn r ta σ H Q = ta σ H fun x H1 => r x H1 Q := rfl
theorem rd_rI (C : Int → Int → Prop) (g : Int → Int → V) (i j : Int) (H : Hp) (Q : VK) : rI C g (.int i) (.int j) H Q = (C i j ∧ Q (g i j) H) := by
  refine propext ⟨fun ⟨_, _, e1, e2, c, q⟩ => ?_, fun ⟨c, q⟩ => ⟨i, j, rfl, rfl, c, q⟩⟩
  cases e1; cases e2; exact ⟨c, q⟩
theorem rd_rI0 (g : Int → Int → V) (i j : Int) (H : Hp) (Q : VK) : rI0 g (.int i) (.int j) H Q = Q (g i j) H := by
  refine propext ⟨fun ⟨_, _, e1, e2, q⟩ => ?_, fun q => ⟨i, j, rfl, rfl, q⟩⟩
  cases e1; cases e2; exact q
theorem rd_rU (g : Int → V) (i : Int) (H : Hp) (Q : VK) : rU g (.int i) H Q = Q (g i) H := by
  refine propext ⟨fun ⟨_, e1, q⟩ => ?_, fun q => ⟨i, rfl, q⟩⟩
  cases e1; exact q
theorem rd_eqI (i j : Int) (H : Hp) (Q : VK) : rEq (.int i) (.int j) H Q = Q (.bl (decide (i = j))) H := by
  have e : decide (V.int i = V.int j) = decide (i = j) := by simp
  refine propext ⟨fun ⟨_, q⟩ => by rw [e] at q; exact q, fun q => ⟨rfl, by rw [e]; exact q⟩⟩
theorem rd_neI (i j : Int) (H : Hp) (Q : VK) : rNe (.int i) (.int j) H Q = Q (.bl (!decide (i = j))) H := by
  have e : decide (V.int i = V.int j) = decide (i = j) := by simp
  refine propext ⟨fun ⟨_, q⟩ => by rw [e] at q; exact q, fun q => ⟨rfl, by rw [e]; exact q⟩⟩
theorem rd_eqS (i j : Str) (H : Hp) (Q : VK) : rEq (.str i) (.str j) H Q = Q (.bl (decide (i = j))) H := by
  have e : decide (V.str i = V.str j) = decide (i = j) := by simp
  refine propext ⟨fun ⟨_, q⟩ => by rw [e] at q; exact q, fun q => ⟨rfl, by rw [e]; exact q⟩⟩
theorem rd_neS (i j : Str) (H : Hp) (Q : VK) : rNe (.str i) (.str j) H Q = Q (.bl (!decide (i = j))) H := by
  have e : decide (V.str i = V.str j) = decide (i = j) := by simp
  refine propext ⟨fun ⟨_, q⟩ => by rw [e] at q; exact q, fun q => ⟨rfl, by rw [e]; exact q⟩⟩
theorem rd_eqB (i j : Bool) (H : Hp) (Q : VK) : rEq (.bl i) (.bl j) H Q = Q (.bl (decide (i = j))) H := by
  have e : decide (V.bl i = V.bl j) = decide (i = j) := by simp
  refine propext ⟨fun ⟨_, q⟩ => by rw [e] at q; exact q, fun q => ⟨rfl, by rw [e]; exact q⟩⟩
/-- a bool -/
def asB (x : V) (R : Bool → Prop) : Prop := ∃ k, x = .bl k ∧ R k
theorem asB_eq (k : Bool) (R : Bool → Prop) : asB (.bl k) R = R k := by
  refine propext ⟨fun ⟨_, e, q⟩ => ?_, fun q => ⟨k, rfl, q⟩⟩
  cases e; exact q
/-- one int, two ints -/
def asI1 (vs : List V) (R : Int → Prop) : Prop := ∃ j, vs = [.int j] ∧ R j
theorem asI1_eq (j : Int) (R : Int → Prop) : asI1 [.int j] R = R j := by
  refine propext ⟨fun ⟨_, e, q⟩ => ?_, fun q => ⟨j, rfl, q⟩⟩
  cases e; exact q
def asI2 (vs : List V) (R : Int → Int → Prop) : Prop := ∃ i j, vs = [.int i, .int j] ∧ R i j
theorem asI2_eq (i j : Int) (R : Int → Int → Prop) : asI2 [.int i, .int j] R = R i j := by
  refine propext ⟨fun ⟨_, _, e, q⟩ => ?_, fun q => ⟨i, j, rfl, q⟩⟩
  cases e; exact q
def asR (x : V) (R : Addr → Prop) : Prop := ∃ a, x = .ref a ∧ R a
theorem asR_eq (a : Addr) (R : Addr → Prop) : asR (.ref a) R = R a := by
  refine propext ⟨fun ⟨_, e, q⟩ => ?_, fun q => ⟨a, rfl, q⟩⟩
  cases e; exact q
def asI (x : V) (R : Int → Prop) : Prop := ∃ i, x = .int i ∧ R i
theorem asI_eq (i : Int) (R : Int → Prop) : asI (.int i) R = R i := by
  refine propext ⟨fun ⟨_, e, q⟩ => ?_, fun q => ⟨i, rfl, q⟩⟩
  cases e; exact q
theorem rd_test (t : TE) (σ : St) (H : Hp) (Q : Bool → Hp → Prop) : tTest t σ H Q = t σ H fun x H' => asB x fun k => Q k H' := rfl
theorem rd_tB (t : TE) (σ : St) (H : Hp) (Q : Bool → Hp → Prop) : tB t σ H Q = t σ H fun x H' => asB x fun k => Q k H' := rfl
theorem rd_and (t u : TT) (σ : St) (H : Hp) (Q : Bool → Hp → Prop) : tAnd t u σ H Q = t σ H fun c H1 => if c = true then u σ H1 Q else Q false H1 := rfl
theorem rd_or (t u : TT) (σ : St) (H : Hp) (Q : Bool → Hp → Prop) : tOr t u σ H Q = t σ H fun c H1 => if c = true then Q true H1 else u σ H1 Q := rfl
theorem rd_not (t : TT) (σ : St) (H : Hp) (Q : Bool → Hp → Prop) : tNot t σ H Q = t σ H fun c H1 => Q (!c) H1 := rfl
theorem rd_andV (ta tb : TE) (σ : St) (H : Hp) (Q : VK) : tAndV ta tb σ H Q = ta σ H fun x H1 => asB x fun c => if c = true then tb σ H1 Q else Q (.bl false) H1 := rfl
theorem rd_orV (ta tb : TE) (σ : St) (H : Hp) (Q : VK) : tOrV ta tb σ H Q = ta σ H fun x H1 => asB x fun c => if c = true then Q (.bl true) H1 else tb σ H1 Q := rfl
theorem rd_notV (ta : TE) (σ : St) (H : Hp) (Q : VK) : tNotV ta σ H Q = ta σ H fun x H1 => asB x fun c => Q (.bl (!c)) H1 := rfl
theorem rd_if (t : TT) (ta tb : TE) (σ : St) (H : Hp) (Q : VK) : tIf t ta tb σ H Q = t σ H fun c H1 => if c = true then ta σ H1 Q else tb σ H1 Q := rfl
theorem rd_seq (t u : TS) (D : Ends) (σ : St) (H : Hp) : tSeq t u D σ H = t { D with nx := u D } σ H := rfl
theorem rd_next (D : Ends) (σ : St) (H : Hp) : tNext D σ H = D.nx σ H := rfl
theorem rd_ifS (c : TT) (t u : TS) (D : Ends) (σ : St) (H : Hp) : tIfS c t u D σ H = c σ H fun b H1 => if b = true then t D σ H1 else u D σ H1 := rfl
theorem rd_ret (te : TE) (D : Ends) (σ : St) (H : Hp) : tRet te D σ H = te σ H D.rt := rfl
theorem rd_retN (D : Ends) (σ : St) (H : Hp) : tRetN D σ H = D.rt .non H := rfl
theorem rd_drop (te : TE) (D : Ends) (σ : St) (H : Hp) : tDrop te D σ H = te σ H fun _ H1 => D.nx σ H1 := rfl
theorem rd_asg (te : TE) (g : TG) (D : Ends) (σ : St) (H : Hp) : tAsg te g D σ H = te σ H fun x H1 => g x σ H1 D.nx := rfl
theorem rd_name (i : Nat) (v : V) (σ : St) (H : Hp) (Q : St → Hp → Prop) : gName i v σ H Q = Q (σ.set i (some v)) H := rfl
theorem rd_sub (to ti : TE) (t : TSet) (v : V) (σ : St) (H : Hp) (Q : St → Hp → Prop) : gSub to ti t v σ H Q = to σ H fun o H1 => ti σ H1 fun i H2 => t o i v H2 fun H3 => Q σ H3 := rfl
theorem rd_setL (p : Addr) (k : Int) (v : V) (H : Hp) (Q : Hp → Prop) : rSetL (.ref p) (.int k) v H Q = ∃ xs, H p = some (.lst xs) ∧ ∃ j, ixN xs.length k = some j ∧ Q (upd H p (.lst (xs.set j v))) := by
  refine propext ⟨fun ⟨_, xs, _, j, e1, e2, h, h', q⟩ => ?_, fun ⟨xs, h, j, h', q⟩ => ⟨p, xs, k, j, rfl, rfl, h, h', q⟩⟩
  cases e1; cases e2; exact ⟨xs, h, j, h', q⟩
theorem rd_call (sp : Sp) (E : XK) (t : TA) (σ : St) (H : Hp) (Q : VK) : tCall sp [] E t σ H Q = t σ H fun vs H1 => sp vs H1 Q E := by
  unfold tCall; simp only [List.append_nil]
theorem rd_cb (r : List V → Hp → VK → Prop) (t : TA) (σ : St) (H : Hp) (Q : VK) : tCB r t σ H Q = t σ H fun vs H1 => r vs H1 Q := rfl
theorem rd_nil (σ : St) (H : Hp) (Q : List V → Hp → Prop) : tNil σ H Q = Q [] H := rfl
theorem rd_cons (ta : TE) (tr : TA) (σ : St) (H : Hp) (Q : List V → Hp → Prop) : tCons ta tr σ H Q = ta σ H fun x H1 => tr σ H1 fun xs H2 => Q (x :: xs) H2 := rfl
theorem rd_tup (t : TA) (σ : St) (H : Hp) (Q : VK) : tTup t σ H Q = t σ H fun xs H1 => xs.length ≤ sizeLine ∧ ∀ p, H1 p = none → Q (.ref p) (upd H1 p (.tup xs)) := rfl
theorem rd_lst (t : TA) (σ : St) (H : Hp) (Q : VK) : tLst t σ H Q = t σ H fun xs H1 => xs.length ≤ sizeLine ∧ ∀ p, H1 p = none → Q (.ref p) (upd H1 p (.lst xs)) := rfl
theorem rd_bm0 (K : PySem.W.Frag) (T : String) (r : V → List V → Hp → VK → Prop) (to : TE) (σ : St) (H : Hp) (Q : VK) : tBM0 K T r to σ H Q = to σ H fun x H1 => tyV K T x H1 ∧ r x [] H1 Q := rfl
theorem rd_bm (K : PySem.W.Frag) (T : String) (r : V → List V → Hp → VK → Prop) (to : TE) (t : TA) (σ : St) (H : Hp) (Q : VK) : tBM K T r to t σ H Q = to σ H fun x H1 => tyV K T x H1 ∧ t σ H1 fun xs H2 => r x xs H2 Q := rfl
theorem rd_for1 (ta : TA) (g : TG) (tb : TS) (D : Ends) (σ : St) (H : Hp) : tFor (iRng1 ta) g tb D σ H = ta σ H (fun vs H1 => asI1 vs fun j => -(2 ^ 62) ≤ j ∧ j < 2 ^ 62 ∧ ForR 0 j.toNat g tb D σ H1) := rfl
theorem rd_for2 (ta : TA) (g : TG) (tb : TS) (D : Ends) (σ : St) (H : Hp) : tFor (iRng2 ta) g tb D σ H = ta σ H (fun vs H1 => asI2 vs fun i j => (-(2 ^ 62) ≤ i ∧ i < 2 ^ 62 ∧ -(2 ^ 62) ≤ j ∧ j < 2 ^ 62) ∧ ForR i (j - i).toNat g tb D σ H1) := rfl
theorem rd_forS (K : PySem.W.Frag) (tl : TE) (g : TG) (tb : TS) (D : Ends) (σ : St) (H : Hp) : tFor (iSq K tl) g tb D σ H = tl σ H (fun x H1 => asR x fun a => ForS K a g tb D σ H1) := rfl
theorem rd_start (N : List Str) (vs : List V) : L2.start N vs = vs.map some ++ List.replicate (N.length - vs.length) none := rfl
theorem rd_iteT {A B : Prop} : (if true = true then A else B) = A := if_pos rfl
theorem rd_iteF {A B : Prop} : (if false = true then A else B) = B := if_neg Bool.false_ne_true
theorem rd_iteD {c A B : Prop} [Decidable c] : (if decide c = true then A else B) = (if c then A else B) := by simp only [decide_eq_true_eq]
theorem rd_iteN {c A B : Prop} [Decidable c] : (if (!decide c) = true then A else B) = (if c then B else A) := by
  by_cases h : c <;> simp [h]
theorem rd_iteNB {b : Bool} {A B : Prop} : (if (!b) = true then A else B) = (if b = true then B else A) := by cases b <;> rfl
theorem rd_nn (b : Bool) : (!(!b)) = b := Bool.not_not b
/-! slices -/
theorem rd_sl (r : V → Option Int → Option Int → Hp → VK → Prop) (te : TE) (tl th : TO) (σ : St) (H : Hp) (Q : VK) : tSl r te tl th σ H Q = te σ H fun x H1 => tl σ H1 fun l H2 => th σ H2 fun u H3 => r x l u H3 Q := rfl
theorem rd_nopart (σ : St) (H : Hp) (Q : Option Int → Hp → Prop) : tNoPart σ H Q = Q none H := rfl
theorem rd_part (t : TE) (σ : St) (H : Hp) (Q : Option Int → Hp → Prop) : tPart t σ H Q = t σ H fun x H1 => asI x fun i => Q (some i) H1 := rfl
theorem rd_slL (K : PySem.W.Frag) (a : Addr) (lo hi : Option Int) (H : Hp) (Q : VK) : rSlL K (.ref a) lo hi H Q = ∃ xs, SqL K H a xs ∧ ∀ p, H p = none → Q (.ref p) (upd H p (.lst (cutV xs lo hi))) := by
  refine propext ⟨fun ⟨_, xs, e, h, q⟩ => ?_, fun ⟨xs, h, q⟩ => ⟨a, xs, rfl, h, q⟩⟩
  cases e; exact ⟨xs, h, q⟩
theorem rd_cat (l b : Addr) (H : Hp) (Q : VK) : rCat (.ref l) (.ref b) H Q = ∃ xs zs, H l = some (.lst xs) ∧ H b = some (.lst zs) ∧ xs.length + zs.length ≤ sizeLine ∧ ∀ p, H p = none → Q (.ref p) (upd H p (.lst (xs ++ zs))) := by
  refine propext ⟨fun ⟨_, _, xs, zs, e1, e2, h⟩ => ?_, fun ⟨xs, zs, h⟩ => ⟨l, b, xs, zs, rfl, rfl, h⟩⟩
  cases e1; cases e2; exact ⟨xs, zs, h⟩
/-! dicts -/
theorem rd_dnew (σ : St) (H : Hp) (Q : VK) : tDNewK σ H Q = ∀ d, H d = none → Q (.ref d) (upd H d (.dK [])) := rfl
theorem rd_din (ty td : TE) (σ : St) (H : Hp) (Q : VK) : tDIn ty td σ H Q = ty σ H fun y H1 => td σ H1 fun x H2 => asR x fun a => ∃ o, DGet H2 a y o ∧ Q (.bl o.isSome) H2 := by
  unfold tDIn asR
  congr; funext y H1; congr; funext x H2
  exact propext ⟨fun ⟨a, o, e, h⟩ => ⟨a, e, o, h⟩, fun ⟨a, e, o, h⟩ => ⟨a, o, e, h⟩⟩
theorem rd_dnotin (ty td : TE) (σ : St) (H : Hp) (Q : VK) : tDNotIn ty td σ H Q = ty σ H fun y H1 => td σ H1 fun x H2 => asR x fun a => ∃ o, DGet H2 a y o ∧ Q (.bl (!o.isSome)) H2 := by
  unfold tDNotIn asR
  congr; funext y H1; congr; funext x H2
  exact propext ⟨fun ⟨a, o, e, h⟩ => ⟨a, e, o, h⟩, fun ⟨a, e, o, h⟩ => ⟨a, o, e, h⟩⟩
theorem rd_dget (td ty : TE) (σ : St) (H : Hp) (Q : VK) : tDGet td ty σ H Q = td σ H fun x H1 => ty σ H1 fun y H2 => asR x fun a => ∃ v, DGet H2 a y (some v) ∧ Q v H2 := by
  unfold tDGet asR
  congr; funext y H1; congr; funext x H2
  exact propext ⟨fun ⟨a, o, e, h⟩ => ⟨a, e, o, h⟩, fun ⟨a, e, o, h⟩ => ⟨a, o, e, h⟩⟩
theorem rd_dput (td ty tv : TE) (D : Ends) (σ : St) (H : Hp) : sDPut td ty tv D σ H = tv σ H fun v H1 => td σ H1 fun x H2 => ty σ H2 fun y H3 => asR x fun a => ∃ H4, DPut H3 a y v H4 ∧ D.nx σ H4 := by
  unfold sDPut asR
  congr; funext v H1; congr; funext x H2; congr; funext y H3
  exact propext ⟨fun ⟨a, o, e, h⟩ => ⟨a, e, o, h⟩, fun ⟨a, e, o, h⟩ => ⟨a, o, e, h⟩⟩
theorem rd_rep (l : Addr) (k : Int) (H : Hp) (Q : VK) : rRep (.ref l) (.int k) H Q = ∃ xs, H l = some (.lst xs) ∧ -(2 ^ 63) ≤ k ∧ k < 2 ^ 63 ∧ xs.length * k.toNat ≤ sizeLine ∧ ∀ p, H p = none → Q (.ref p) (upd H p (.lst (List.replicate k.toNat xs).flatten)) := by
  refine propext ⟨fun ⟨_, _, xs, e1, e2, h⟩ => ?_, fun ⟨xs, h⟩ => ⟨l, k, xs, rfl, rfl, h⟩⟩
  cases e1; cases e2; exact ⟨xs, h⟩
end L2
namespace L2
open PySem PySem.Spec PyProof.Rows
/-! ### what the top has written -/
theorem funAt_mk {K : PySem.W.Frag} {h : Heap} {mg : Str → Option Value} {x : Str} {st : Stmt} {ps : List Str} {f : Addr} {oc : Value} {od an : Option Addr} {osl : Array (Option Value)} {kV doc pm cdv ct : Value} (X : K.In h) (G : h.Ns mainGlobals mg)
    (a : PySem.W.nsIn K mainGlobals x = some (some (.ref f))) (l : K.lookup f = some ⟨oc, od, .func (PySem.W.fnOf x x (defArgs st) (defBody st) (defScope st) .none kV doc pm an cdv ct), osl⟩) (c : PySem.W.codeIn K cdv x = true) (k : PySem.W.keepIn K (.ref f) = true)
    (hb : ∀ (kV doc pm : Value) (an : Option Addr) (cdv ct : Value) (us : List Value), us.length = ps.length → bindArgs (PySem.W.fnOf x x (defArgs st) (defBody st) (defScope st) .none kV doc pm an cdv ct) ⟨us, []⟩ = pure (ps.zip us)) : FunAt K mg x st ps :=
  ⟨f, _, fun_mk l c k, PySem.W.mg_of X G a, (fun_mk l c k).binds hb⟩
theorem law_mk {P : Program} {w : World} {K : PySem.W.Frag} {h : Heap} {mg : Str → Option Value} {st : Stmt} {p : Str} {fa f : Addr} {kk : Nat} {sp : Sp} {oc : Value} {od an : Option Addr} {osl : Array (Option Value)} {kV doc pm cdv ct : Value} (X : K.In h) (G : h.Ns mainGlobals mg)
    (hfa : mg "law" = some (.ref fa)) (a : PySem.W.nsIn K mainGlobals "law" = some (some (.ref f))) (l : K.lookup f = some ⟨oc, od, .func (PySem.W.fnOf "law" "law" (defArgs st) (defBody st) (defScope st) .none kV doc pm an cdv ct), osl⟩) (c : PySem.W.codeIn K cdv "law" = true) (k : PySem.W.keepIn K (.ref f) = true)
    (hb : ∀ (s : Shared) (v : Value), BindsTo s (PySem.W.fnOf "law" "law" (defArgs st) (defBody st) (defScope st) .none kV doc pm an cdv ct) ⟨[v], []⟩ [(p, v)])
    (R : ∀ (base : Heap) (fd : FuncData), Fun K "law" "law" st f fd → FnOk P w K mg base CX0 kk f fd [p] sp) :
    ∃ fd : FuncData, (∀ (s : Shared) (v : Value), BindsTo s fd ⟨[v], []⟩ [(p, v)]) ∧ ∀ base : Heap, K.In base → base.Ns mainGlobals mg → FnOk P w K mg base CX0 kk fa fd [p] sp := by
  have e := hfa.symm.trans (PySem.W.mg_of X G a)
  cases e
  exact ⟨_, hb, fun base _ _ => R base _ (fun_mk l c k)⟩
end L2
namespace L2
open PySem PySem.Spec PyProof.Rows
theorem gi_of {mg : Str → Option Value} {x : Str} {v : Value} {i : Int} (h : mg x = some v) (e : ∃ t, v = .int i t) : GI mg x i := by
  obtain ⟨t, rfl⟩ := e
  exact ⟨t, h⟩
end L2
namespace L2
open PySem PySem.Spec PyProof.Rows
/-- between two statements -/
theorem seq_R {t u : TS} {D : Ends} {σ : St} {H : Hp} (R : St → Hp → Prop) (ht : ∀ N : St → Hp → Prop, (∀ σ' H', R σ' H' → N σ' H') → t { D with nx := N } σ H) (hu : ∀ σ' H', R σ' H' → u D σ' H') : tSeq t u D σ H := ht (u D) hu
end L2
namespace L2
open PySem PySem.Spec PyProof.Rows
theorem seqL_at {K : PySem.W.Frag} {H H' : Hp} {a : Addr} {xs : List V} (e : ∀ o, H a = some o → H' a = some o) (h : SqL K H a xs) : SqL K H' a xs := by
  rcases h with (h | ⟨o, h⟩) | h
  · exact .inl (.inl (e _ h))
  · exact .inl (.inr ⟨o, e _ h⟩)
  · exact .inr h
theorem seqT_at {K : PySem.W.Frag} {H H' : Hp} {a : Addr} {xs : List V} (e : ∀ o, H a = some o → H' a = some o) (h : SqT K H a xs) : SqT K H' a xs := by
  rcases h with (h | ⟨o, h⟩) | h
  · exact .inl (.inl (e _ h))
  · exact .inl (.inr ⟨o, e _ h⟩)
  · exact .inr h
/-- .. where the body may change what else is tracked -/
theorem ForS.at {K : PySem.W.Frag} {a : Addr} {xs : List V} {g : TG} {tb : TS} {D : Ends} {σ : St} {H : Hp} (hS : SqS K H a xs) (Pv : Nat → St → Hp → Prop) (h0 : Pv 0 σ H) (hl : ∀ i σ H2, i ≤ xs.length → Pv i σ H2 → ∀ o, H a = some o → H2 a = some o)
    (hs : ∀ (i : Nat) (x : V) (σ : St) (H : Hp) (N : St → Hp → Prop), xs[i]? = some x → Pv i σ H → (∀ σ' H', Pv (i + 1) σ' H' → N σ' H') → g x σ H fun σ2 H2 => tb { D with nx := N, ct := N, bk := D.nx } σ2 H2) (hd : ∀ σ H, Pv xs.length σ H → D.nx σ H) : ForS K a g tb D σ H := by
  rcases hS with h | h
  · exact .inl ⟨⟨xs, h⟩, for_list Pv h0 (fun i σ H2 hi p => seqL_at (hl i σ H2 hi p) h) (fun i x σ H hi p => hs i x σ H _ hi p fun _ _ q => q) hd⟩
  · exact .inr ⟨⟨xs, h⟩, for_tup Pv h0 (fun i σ H2 hi p => seqT_at (hl i σ H2 hi p) h) (fun i x σ H hi p => hs i x σ H _ hi p fun _ _ q => q) hd⟩
end L2

namespace L2
open PySem PySem.Spec PyProof.Rows
/-! ### the cells that a comprehension's block takes over -/
/-! ### the block -/
/-- what a comprehension's scope must have; each by rfl or decide -/
structure CompScope (X : Cx) (scope : Scope) (x : Str) : Prop where
  kind : scope.kind = .function
  fn : X.env.scope.kind = .function
  own : scope.names.lookup x = some .local
  nocell : (scope.names.all fun y => y.2 != .cell) = true
  loc : (scope.names.all fun y => y.2 != .local || scope.names.lookup y.1 == some .local) = true
  free : (scope.names.all fun y => y.2 != .free || X.env.scope.names.lookup y.1 == some .cell) = true
  one : (scope.names.all fun y => y.2 != .local || y.1 == x || y.1 == (".0" : Str)) = true
  new : ((scope.names.lookup ("" : Str)).isNone && X.N.all fun y => !(y == (".0" : Str))) = true
section
variable {X : Cx} {scope : Scope} {x : Str} {C : Addr} {pins : List (Addr × Obj)} {σ : St} {H : Hp} {s : Shared} {fp : List Addr}
theorem CompScope.has (S : CompScope X scope x) (ok : X.Ok) : ∀ y ∈ scope.names, y.2 = .free → ∃ c, X.env.cells.lookup y.1 = some c := fun y hy hf => by
  have h := List.all_eq_true.mp S.free y hy
  rw [hf] at h
  have h' : X.env.scope.names.lookup y.1 = some .cell := by simpa using h
  exact ok.has y.1 (.inl h')
end

/-! ### the loop of a comprehension, whatever its iterator keeps -/
section
variable {prog : Program} {w : World} {A : Around} {s : Shared} {R : Result → Shared → Prop}
end
/-! ### [elt for x in iter] -/
/-- W: what holds between two turns, by the turn, a measure and the heap; D: the list that grows -/
def tLC (wi : TI) (te : TE) : TE := fun σ H Q => wi σ H fun J H1 => ∀ D, H1 D = none → ∃ W : Nat → Nat → Hp → Prop, (∃ m, W 0 m (upd H1 D (.lst []))) ∧ ∀ i m H2, W i m H2 →
  (J.stop i H2 ∧ Q (.ref D) H2) ∨ (J.go i H2 ∧ ∀ x H', J.yld i H2 x H' → te (some x :: σ) H' fun y H3 => ∃ ys, H3 D = some (.lst ys) ∧ ys.length < sizeLine ∧ ∃ m', m' < m ∧ W (i + 1) m' (upd H3 D (.lst (ys ++ [y]))))
section
variable {X : Cx} {scope : Scope} {x : Str} {elt iter : Expr} {wi : TI} {te : TE} {px pos : Pos}
end
end L2

namespace L2
open PySem PySem.Spec PyProof.Rows
section
variable {X : Cx}
/-! ### sum, min of a list of ints -/
def rSum1 (K : PySem.W.Frag) : List V → Hp → VK → Prop := fun xs H Q => ∃ (p : Addr) (ns : List Int), xs = [.ref p] ∧ SqL K H p (ns.map V.int) ∧ Q (.int ns.sum) H
theorem rSum1_eq (K : PySem.W.Frag) (p : Addr) (H : Hp) (Q : VK) : rSum1 K [.ref p] H Q = ∃ ns : List Int, SqL K H p (ns.map V.int) ∧ Q (.int ns.sum) H := by
  refine propext ⟨fun ⟨_, ns, e, h⟩ => ?_, fun ⟨ns, h⟩ => ⟨p, ns, rfl, h⟩⟩
  cases e; exact ⟨ns, h⟩
def rMin1 (K : PySem.W.Frag) : List V → Hp → VK → Prop := fun xs H Q => ∃ (p : Addr) (ns : List Int), xs = [.ref p] ∧ SqL K H p (ns.map V.int) ∧ ns ≠ [] ∧ ∀ M, M ∈ ns → (∀ a, a ∈ ns → M ≤ a) → Q (.int M) H
theorem rMin1_eq (K : PySem.W.Frag) (p : Addr) (H : Hp) (Q : VK) : rMin1 K [.ref p] H Q = ∃ ns : List Int, SqL K H p (ns.map V.int) ∧ ns ≠ [] ∧ ∀ M, M ∈ ns → (∀ a, a ∈ ns → M ≤ a) → Q (.int M) H := by
  refine propext ⟨fun ⟨_, ns, e, h⟩ => ?_, fun ⟨ns, h⟩ => ⟨p, ns, rfl, h⟩⟩
  cases e; exact ⟨ns, h⟩
/-! ### xs.index(i) of a list of ints -/
def rIndex : V → List V → Hp → VK → Prop := fun x vs H Q => ∃ (l : Addr) (ns : List Int) (i : Int) (j : Nat), x = .ref l ∧ vs = [.int i] ∧ H l = some (.lst (ns.map V.int)) ∧ ns[j]? = some i ∧ (∀ m, m < j → ns[m]? ≠ some i) ∧ Q (.int (j : Nat)) H
theorem rIndex_eq (l : Addr) (i : Int) (H : Hp) (Q : VK) : rIndex (.ref l) [.int i] H Q = ∃ ns : List Int, H l = some (.lst (ns.map V.int)) ∧ ∃ j : Nat, ns[j]? = some i ∧ (∀ m, m < j → ns[m]? ≠ some i) ∧ Q (.int (j : Nat)) H := by
  refine propext ⟨fun ⟨_, ns, _, j, e1, e2, h, h'⟩ => ?_, fun ⟨ns, h, j, h'⟩ => ⟨l, ns, i, j, rfl, rfl, h, h'⟩⟩
  cases e1; cases e2; exact ⟨ns, h, j, h'⟩
end
/-! ### list comprehensions as wrappers -/
def LCS (K : PySem.W.Frag) (a : Addr) (te : TE) (σ : St) (H1 : Hp) (Q : VK) : Prop :=
  ((∃ xs, SqL K H1 a xs) ∧ ∀ D, H1 D = none → ∃ W : Nat → Nat → Hp → Prop, (∃ m, W 0 m (upd H1 D (.lst []))) ∧ ∀ i m H2, W i m H2 →
    ((Itl K a).stop i H2 ∧ Q (.ref D) H2) ∨ ((Itl K a).go i H2 ∧ ∀ x H', (Itl K a).yld i H2 x H' → te (some x :: σ) H' fun y H3 => ∃ ys, H3 D = some (.lst ys) ∧ ys.length < sizeLine ∧ ∃ m', m' < m ∧ W (i + 1) m' (upd H3 D (.lst (ys ++ [y]))))) ∨
  ((∃ xs, SqT K H1 a xs) ∧ ∀ D, H1 D = none → ∃ W : Nat → Nat → Hp → Prop, (∃ m, W 0 m (upd H1 D (.lst []))) ∧ ∀ i m H2, W i m H2 →
    ((Itt K a).stop i H2 ∧ Q (.ref D) H2) ∨ ((Itt K a).go i H2 ∧ ∀ x H', (Itt K a).yld i H2 x H' → te (some x :: σ) H' fun y H3 => ∃ ys, H3 D = some (.lst ys) ∧ ys.length < sizeLine ∧ ∃ m', m' < m ∧ W (i + 1) m' (upd H3 D (.lst (ys ++ [y])))))
theorem rd_lcS (K : PySem.W.Frag) (tl te : TE) (σ : St) (H : Hp) (Q : VK) : tLC (iSq K tl) te σ H Q = tl σ H fun x H1 => asR x fun a => LCS K a te σ H1 Q := rfl
/-- by what holds of the list so far; the elements may be found by calls that leave all that was tracked as it was -/
theorem LCS.go {K : PySem.W.Frag} {a : Addr} {te : TE} {σ : St} {H : Hp} {Q : VK} {xs : List V} (hS : SqS K H a xs) (hlen : xs.length < sizeLine) (Pv : Nat → List V → Hp → Prop) (h0 : ∀ H2, Same H H2 → Pv 0 [] H2)
    (hst : ∀ i ys H2 H3 D, H D = none → Pv i ys H2 → (∀ b o, b ≠ D → H2 b = some o → H3 b = some o) → Pv i ys H3)
    (hs : ∀ (i : Nat) (x : V) (ys : List V) (H2 : Hp) (R : VK), xs[i]? = some x → ys.length = i → Pv i ys H2 → Same H H2 → (∀ y H3, Same H2 H3 → Pv (i + 1) (ys ++ [y]) H3 → R y H3) → te (some x :: σ) H2 R)
    (hd : ∀ D ys H2, H D = none → H2 D = some (.lst ys) → ys.length = xs.length → Pv xs.length ys H2 → Same H H2 → Q (.ref D) H2) : LCS K a te σ H Q := by
  have W : ∀ (D : Addr), H D = none → ∀ (J : It), (∀ i H2, Same H H2 → xs.length ≤ i → J.stop i H2) → (∀ i x H2, Same H H2 → xs[i]? = some x → J.go i H2) → (∀ i H2 x H', Same H H2 → J.yld i H2 x H' → H' = H2 ∧ xs[i]? = some x) →
      ∃ W : Nat → Nat → Hp → Prop, (∃ m, W 0 m (upd H D (.lst []))) ∧ ∀ i m H2, W i m H2 →
        (J.stop i H2 ∧ Q (.ref D) H2) ∨ (J.go i H2 ∧ ∀ x H', J.yld i H2 x H' → te (some x :: σ) H' fun y H3 => ∃ ys, H3 D = some (.lst ys) ∧ ys.length < sizeLine ∧ ∃ m', m' < m ∧ W (i + 1) m' (upd H3 D (.lst (ys ++ [y])))) := by
    intro D hD J j1 j2 j3
    refine ⟨fun i m H2 => m = xs.length - i ∧ i ≤ xs.length ∧ ∃ ys, ys.length = i ∧ H2 D = some (.lst ys) ∧ Pv i ys H2 ∧ Same H H2, ⟨xs.length, by simp, Nat.zero_le _, [], rfl, upd_same, h0 _ (Same.new hD), Same.new hD⟩, ?_⟩
    rintro i m H2 ⟨rfl, hi, ys, hys, hD2, hP, hsm⟩
    by_cases hlt : i < xs.length
    · refine .inr ⟨j2 i xs[i] H2 hsm (by simp [hlt]), fun x H' hy => ?_⟩
      obtain ⟨rfl, hx⟩ := j3 i H2 x H' hsm hy
      refine hs i x ys _ _ hx hys hP hsm fun y H3 h3 hP3 => ⟨ys, h3 _ _ hD2, by omega, xs.length - (i + 1), by omega, rfl, hlt, ys ++ [y], by simp [hys], upd_same, hst _ _ H3 _ D hD hP3 fun b o hb e => by rw [upd_ne hb]; exact e, fun b o e => ?_⟩
      rw [upd_ne (ne_of_none e hD)]
      exact h3 _ _ (hsm _ _ e)
    · have e : i = xs.length := by omega
      subst e
      exact .inl ⟨j1 _ _ hsm (Nat.le_refl _), hd D ys H2 hD hD2 hys hP hsm⟩
  rcases hS with h | h
  · refine .inl ⟨⟨xs, h⟩, fun D hD => W D hD (Itl K a) (fun i H2 hs hi => ⟨xs, hs.seq h, hi⟩) (fun i x H2 hs hx => ⟨xs, x, hs.seq h, hx⟩) fun i H2 x H' hs hy => ⟨hy.1, hy.2 xs (hs.seq h)⟩⟩
  · refine .inr ⟨⟨xs, h⟩, fun D hD => W D hD (Itt K a) (fun i H2 hs hi => ⟨xs, hs.seqT h, hi⟩) (fun i x H2 hs hx => ⟨xs, x, hs.seqT h, hx⟩) fun i H2 x H' hs hy => ⟨hy.1, hy.2 xs (hs.seqT h)⟩⟩
/-- each element the value of a function of the item -/
theorem LCS.map {K : PySem.W.Frag} {a : Addr} {te : TE} {σ : St} {H : Hp} {Q : VK} {xs : List V} (hS : SqS K H a xs) (hlen : xs.length < sizeLine) (f : V → V)
    (hs : ∀ (i : Nat) (x : V) (H2 : Hp) (R : VK), xs[i]? = some x → Same H H2 → (∀ H3, Same H2 H3 → R (f x) H3) → te (some x :: σ) H2 R)
    (hd : ∀ D H2, H D = none → H2 D = some (.lst (xs.map f)) → Same H H2 → Q (.ref D) H2) : LCS K a te σ H Q := by
  refine LCS.go hS hlen (fun i ys _ => ys = (xs.take i).map f) (fun _ _ => by simp) (fun i ys H2 H3 D _ h _ => h) (fun i x ys H2 R hx _ hp hsm hR => hs i x H2 R hx hsm fun H3 h3 => hR _ _ h3 ?_) fun D ys H2 hD hD2 _ hp hsm => hd D H2 hD (by rw [hD2, hp, List.take_of_length_le (Nat.le_refl _)]) hsm
  obtain ⟨hlt, e⟩ := List.getElem?_eq_some_iff.mp hx
  rw [hp, List.take_add_one, hx]
  simp
/-! the same rules with the written part named (within a comprehension's block) -/
section
variable {X : Cx} {K : PySem.W.Frag}
theorem pe_bmK {o e : Expr} {es : List Expr} {name : Str} {T id : String} {r : V → List V → Hp → VK → Prop} {to : TE} {t : TA} {apos cpos : Pos} (hK : X.K = K) (pa : PlainAttrs T) (slot : Slot T name id) (hty : typeOf (.builtin id) = pure (.type "method_descriptor")) (hm : MtR X id r) (ho : PE X o to) (ha : PA X (e :: es) t)
    (hbase : attributeBase o name X.env (eval o X.env) = eval o X.env := by rfl)
    (hfew : ((backTo cpos (starEach (e :: es) X.env)).all (fun x => !x.1) && (backToKw cpos (keywordEach [] X.env)).all (fun x => x.1.isSome)
      && decide ((e :: es).length + ([] : List Keyword).length + (if ([] : List Keyword).isEmpty then 0 else 1) < 30)) = true := by rfl)
    (hline : (apos.endLine == cpos.line) = true := by rfl) (hs : starEach (e :: es) X.env = (false, eval e X.env) :: starEach es X.env := by rfl) (hplain : (backTo cpos (starEach es X.env)).any (·.1) = false := by rfl) :
    PE X (.Call (.Attribute o name apos) (e :: es) [] cpos) (tBM K T r to t) := by
  subst hK
  exact pe_bm pa slot hty hm ho ha hbase hfew hline hs hplain
end
end L2

namespace L2
open PySem PySem.Spec PyProof.Rows
/-! ### displays of written ints -/
def tInts (vs : List Int) : TA := fun _ H Q => Q (vs.map V.int) H
def constInts : List Expr → Option (List Int)
  | [] => some []
  | .Constant (.int i) _ _ :: r => (constInts r).map fun l => i :: l
  | _ => none
theorem rd_ints (vs : List Int) (σ : St) (H : Hp) (Q : List V → Hp → Prop) : tInts vs σ H Q = Q (vs.map V.int) H := rfl
theorem pa_ints {X : Cx} : ∀ {es : List Expr} {vs : List Int}, constInts es = some vs → PA X es (tInts vs)
  | [], vs, h => by
    cases h
    exact pa_nil
  | e :: r, vs, h => by
    unfold constInts at h
    split at h
    · rename_i e0; cases e0
    · rename_i i j pos r' e0
      cases e0
      cases hr : constInts r with
      | none => rw [hr] at h; cases h
      | some l =>
        rw [hr] at h
        cases h
        have ih : PA X r (tInts l) := pa_ints hr
        exact pa_cons pe_int ih
    · cases h
end L2
namespace L2
open PySem PySem.Spec PyProof.Rows
/-! ### a def by its scope and body as they are written -/
theorem FunAt.goodL {P : Program} {w : World} {K : PySem.W.Frag} {mg : Str → Option Value} {base : Heap} {x : Str} {st : Stmt} {N ps : List Str} {k : Nat} {sp : Sp} {sc : Scope} {bd : List Stmt} (hsc : defScope st = sc) (hbd : defBody st = bd) (F : FunAt K mg x st ps) (S : FnScope N ps sc) (len : ∀ vs H Q E, sp vs H Q E → vs.length = ps.length)
    (hbody : ∀ (f : Addr) (cdv : Value) (A : Around) (outer : List Env) (s : Shared) (H : Hp) (vs : List V) (Q : VK) (E : XK), Room k (A.deeper (envOfC x sc s.heap.objs.size f cdv)) → sp vs H Q E →
      ∃ t, PSs (cxOf CX0 P w K mg base N x sc f cdv A outer s H E).nox bd t ∧ t { nx := fun _ H' => Q .non H', rt := Q } (L2.start N vs) H) : Good P w K mg base CX0 (k + 1) x ps sp := by
  subst hsc hbd
  exact F.good S len hbody
theorem Fun.okL {P : Program} {w : World} {K : PySem.W.Frag} {mg : Str → Option Value} {base : Heap} {x qual : Str} {st : Stmt} {f : Addr} {fd : FuncData} {N ps : List Str} {k : Nat} {sp : Sp} {sc : Scope} {bd : List Stmt} (hsc : defScope st = sc) (hbd : defBody st = bd) (F : Fun K x qual st f fd) (S : FnScope N ps sc) (len : ∀ vs H Q E, sp vs H Q E → vs.length = ps.length)
    (hbody : ∀ (cdv : Value) (A : Around) (outer : List Env) (s : Shared) (H : Hp) (vs : List V) (Q : VK) (E : XK), Room k (A.deeper (envOfC qual sc s.heap.objs.size f cdv)) → sp vs H Q E →
      ∃ t, PSs (cxOf CX0 P w K mg base N qual sc f cdv A outer s H E).nox bd t ∧ t { nx := fun _ H' => Q .non H', rt := Q } (L2.start N vs) H) : FnOk P w K mg base CX0 (k + 1) f fd ps sp := by
  subst hsc hbd
  exact F.ok S len hbody
end L2

namespace L2
open PySem PySem.Spec PyProof.Rows
structure QE (X : Cx) (e : Expr) (t : TE) : Prop where h : PE X e t
structure QT (X : Cx) (e : Expr) (t : TT) : Prop where h : PT X e t
structure QW (X : Cx) (e : Expr) (t : TT) : Prop where h : PW X e t
structure QA (X : Cx) (es : List Expr) (t : TA) : Prop where h : PA X es t
structure QS (X : Cx) (st : Stmt) (t : TS) : Prop where h : PS X st t
structure QB (X : Cx) (st : List Stmt) (t : TS) : Prop where h : PSs X st t
structure QI (X : Cx) (tg iter : Expr) (t : TI) : Prop where h : PI X tg iter t
structure QG (X : Cx) (tg : Expr) (t : TG) : Prop where h : PG X tg t
structure QO (X : Cx) (e : Option Expr) (t : TO) : Prop where h : PO X e t
section
variable {X : Cx} {K : PySem.W.Frag} {a b c e o i l : Expr} {es : List Expr} {ta tb tc te to ti tl td ty tv : TE} {t : TA} {tA tB' : TT} {pos p apos cpos pos' px : Pos} {x : Str} {rest body els : List Stmt} {st : Stmt} {tS uS : TS} {tg iter value : Expr} {wi : TI} {g : TG}
/-! expressions -/
theorem qe_int {i j pos} : QE X (.Constant (.int i) j pos) (tC (.int i)) := ⟨pe_int⟩
theorem qe_bl {b j pos} : QE X (.Constant (.bool b) j pos) (tC (.bl b)) := ⟨pe_bl⟩
theorem qv (i : Nat) {x : Str} {pos : Pos} (hN : X.N[i]? = some x := by rfl) (hv : Vis X.env.scope x := by first | exact Or.inl rfl | exact Or.inr (Or.inl rfl) | exact Or.inr (Or.inr rfl)) (hd : (x == ("__debug__" : Str)) = false := by decide)
    (hcd : (x == ("__classdict__" : Str)) = false := by decide) : QE X (.Name x pos) (tVar i) := ⟨pe_var hN hv hd hcd⟩
theorem qe_ty {n : String} (hm : X.mg x = none) (hv : bootBuiltins x = some (.type n)) (hg : Gl X x := by rfl) (hn : x ≠ "__name__" := by decide) (hd : (x == ("__debug__" : Str)) = false := by decide) : QE X (.Name x pos) (tC (.ty n)) := ⟨pe_ty hm hv hg hn hd⟩
theorem qe_gi {i : Int} (h : GI X.mg x i) (hg : Gl X x := by rfl) (hd : (x == ("__debug__" : Str)) = false := by decide) : QE X (.Name x pos) (tC (.int i)) := ⟨pe_gi h hg hd⟩
theorem qe_op {op : Operator} {r : R2} (ho : OpR X (binaryOp op) r) (ha : QE X a ta) (hb : QE X b tb) : QE X (.BinOp a op b pos) (tOp r ta tb) := ⟨pe_op ho ha.h hb.h⟩
theorem qe_not (ha : QE X a ta) : QE X (.UnaryOp .Not a pos) (tNotV ta) := ⟨pe_not ha.h⟩
theorem qe_one {op} (ha : QE X a ta) : QE X (.BoolOp op [a] pos) ta := ⟨pe_one ha.h⟩
theorem qe_and (ha : QE X a ta) (hb : QE X (.BoolOp .And (b :: es) pos) tb) : QE X (.BoolOp .And (a :: b :: es) pos) (tAndV ta tb) := ⟨pe_and ha.h hb.h⟩
theorem qe_ifExp (hc : QT X c tA) (ha : QE X a ta) (hb : QE X b tb) : QE X (.IfExp c a b pos) (tIf tA ta tb) := ⟨pe_ifExp hc.h ha.h hb.h⟩
theorem qe_lst (h : QA X es t) : QE X (.List es pos) (tLst t) := ⟨pe_lst h.h⟩
theorem qe_dnewK : QE X (.Dict [] [] pos) tDNewK := ⟨pe_dnewK⟩
theorem qo_none : QO X none tNoPart := ⟨po_none⟩
theorem qo_some (h : QE X e te) : QO X (some e) (tPart te) := ⟨po_some h.h⟩
theorem qe_slice {r : V → Option Int → Option Int → Hp → VK → Prop} {lo hi : Option Expr} {tlo thi : TO} {p2 : Pos} (hr : SlR X r) (he : QE X e te) (hl : QO X lo tlo) (hu : QO X hi thi) : QE X (.Subscript e (.Slice lo hi none p2) pos) (tSl r te tlo thi) := ⟨pe_slice hr he.h hl.h hu.h⟩
theorem qe_dget (hu : X.A.units + 1 < cLine) (ho : QE X o td) (hi : QE X i ty) (hs : NoSl i) : QE X (.Subscript o i pos) (tDGet td ty) := ⟨pe_dget hu ho.h hi.h hs⟩
theorem qe_ix {r : R2} (hr : IxR X r) (ha : QE X a ta) (hb : QE X b tb) (hs : PlainIx b) : QE X (.Subscript a b pos) (tOp r ta tb) := ⟨pe_ix hr ha.h hb.h hs⟩
theorem qe_callG {CX : CXT} {k : Nat} {ps : List Str} {sp : Sp} {E : XK} (g : Good X.prog X.w X.K X.mg X.base CX k x ps sp) (hr : Room k X.A) (hx : Passes CX X E)
    (ha : QA X (e :: es) t) (hg : Gl X x := by rfl) (hdb : (x == ("__debug__" : Str)) = false := by decide) (he : starEach (e :: es) X.env = (false, eval e X.env) :: starEach es X.env := by rfl) (hpl : (backTo pos (starEach es X.env)).any (·.1) = false := by rfl) :
    QE X (.Call (.Name x p) (e :: es) [] pos) (tCall sp [] E t) := ⟨pe_callG g hr hx ha.h hg hdb he hpl⟩
theorem qe_callB {id : String} {r : List V → Hp → VK → Prop} (hc : CallR X (.builtin id) r) (hg : Gl X x) (hm : X.mg x = none) (hv : bootBuiltins x = some (.builtin id)) (ha : QA X (e :: es) t) (hn : x ≠ "__name__" := by decide) (hdb : (x == ("__debug__" : Str)) = false := by decide)
    (he : starEach (e :: es) X.env = (false, eval e X.env) :: starEach es X.env := by rfl) (hpl : (backTo pos (starEach es X.env)).any (·.1) = false := by rfl) : QE X (.Call (.Name x p) (e :: es) [] pos) (tCB r t) := ⟨pe_callB hc hg hm hv ha.h hn hdb he hpl⟩
theorem qe_callTy {T : String} {r : List V → Hp → VK → Prop} (hc : CallR X (.type T) r) (hg : Gl X x) (hm : X.mg x = none) (hv : bootBuiltins x = some (.type T)) (ha : QA X (e :: es) t) (hn : x ≠ "__name__" := by decide) (hdb : (x == ("__debug__" : Str)) = false := by decide)
    (he : starEach (e :: es) X.env = (false, eval e X.env) :: starEach es X.env := by rfl) (hpl : (backTo pos (starEach es X.env)).any (·.1) = false := by rfl) : QE X (.Call (.Name x p) (e :: es) [] pos) (tCB r t) := ⟨pe_callTy hc hg hm hv ha.h hn hdb he hpl⟩
theorem qe_bm {name : Str} {T id : String} {r : V → List V → Hp → VK → Prop} (hK : X.K = K) (pa : PlainAttrs T) (slot : Slot T name id) (hty : typeOf (.builtin id) = pure (.type "method_descriptor")) (hm : MtR X id r) (ho : QE X o to) (ha : QA X (e :: es) t)
    (hbase : attributeBase o name X.env (eval o X.env) = eval o X.env := by rfl)
    (hfew : ((backTo cpos (starEach (e :: es) X.env)).all (fun x => !x.1) && (backToKw cpos (keywordEach [] X.env)).all (fun x => x.1.isSome)
      && decide ((e :: es).length + ([] : List Keyword).length + (if ([] : List Keyword).isEmpty then 0 else 1) < 30)) = true := by rfl)
    (hline : (apos.endLine == cpos.line) = true := by rfl) (hs : starEach (e :: es) X.env = (false, eval e X.env) :: starEach es X.env := by rfl) (hplain : (backTo cpos (starEach es X.env)).any (·.1) = false := by rfl) :
    QE X (.Call (.Attribute o name apos) (e :: es) [] cpos) (tBM K T r to t) := ⟨pe_bmK hK pa slot hty hm ho.h ha.h hbase hfew hline hs hplain⟩
theorem qe_cmpR {op : CmpOp} {r : R2} (ho : OpR X (compareOp op) r) (ha : QE X a ta) (hb : QE X b tb) (hm : behindInMarks op b = false) : QE X (.Compare a [op] [b] pos) (tOp r ta tb) := ⟨pe_cmpR ho ha.h hb.h hm⟩
/-! tests -/
theorem qt_cmpR {op : CmpOp} {r : R2} (ho : OpR X (compareOp op) r) (ha : QE X a ta) (hb : QE X b tb) (hm : behindInMarks op b = false) : QT X (.Compare a [op] [b] pos) (tTest (tOp r ta tb)) := ⟨pt_cmpR ho ha.h hb.h hm⟩
theorem qt_not (ha : QT X a tA) : QT X (.UnaryOp .Not a pos) (tNot tA) := ⟨pt_not ha.h⟩
theorem qt_val (h : QE X e te) (he : ∀ whole, isTrue e X.env whole = (do let v ← whole; standAt e.pos; holding [v] (truthy v)) := by intro _; rfl) : QT X e (tB te) := ⟨pt_val h.h he⟩
theorem QW.qt (h : QW X e tA) : QT X e tA := ⟨h.h.pt⟩
theorem qw_or1 (ha : QT X a tA) : QW X (.BoolOp .Or [a] pos) tA := ⟨pw_or1 ha.h⟩
theorem qw_or (ha : QT X a tA) (hb : QW X (.BoolOp .Or (b :: es) pos) tB') : QW X (.BoolOp .Or (a :: b :: es) pos) (tOr tA tB') := ⟨pw_or ha.h hb.h⟩
/-! arguments -/
theorem qa_nil : QA X [] tNil := ⟨pa_nil⟩
theorem qa_cons (ha : QE X e te) (hr : QA X es t) (hs : starEach (e :: es) X.env = (false, eval e X.env) :: starEach es X.env := by rfl) : QA X (e :: es) (tCons te t) := ⟨pa_cons ha.h hr.h hs⟩
theorem qa_ints {vs : List Int} (h : constInts es = some vs) : QA X es (tInts vs) := ⟨pa_ints h⟩
/-! statements -/
theorem qb_nil : QB X [] tNext := ⟨pss_nil⟩
theorem qb_cons (h1 : QS X st tS) (h2 : QB X rest uS) : QB X (st :: rest) (tSeq tS uS) := ⟨pss_cons h1.h h2.h⟩
theorem qb_one (h1 : QS X st tS) : QB X [st] tS := ⟨pss_one h1.h⟩
theorem qs_never : QS X st tNever := ⟨ps_never⟩
theorem qs_expr (he : QE X e te) (hs : swapsWith e none pos.line X.env = pure false := by rfl) : QS X (.Expr e pos) (tDrop te) := ⟨ps_expr he.h hs⟩
theorem qs_ret (he : QE X e te) : QS X (.Return (some e) pos) (tRet te) := ⟨ps_ret he.h⟩
theorem qs_if (hc : QT X c tA) (ha : QB X body tS) (hb : QB X els uS) : QS X (.If c body els pos) (tIfS tA tS uS) := ⟨ps_if hc.h ha.h hb.h⟩
theorem qs_for (hp : PassesOwn (model X.prog X.w) X.A X.env X.xe) (hc : X.calm = true) (hi : QI X tg iter wi) (hg : QG X tg g) (hb : QB X body tS)
    (hs : ∀ x, foldedSetIterable iter X.env x = pure x := by intro _; rfl) : QS X (.For tg iter body [] pos) (tFor wi g tS) := ⟨ps_for hp hc hi.h hg.h hb.h hs⟩
theorem qs_set {i : Nat} (hN : X.N.Nodup) (hi : X.N[i]? = some x) (hx : Loc X.env.scope x) (he : QE X e te) (hs : swapsWith e (some (.Name x pos')) pos.line X.env = pure false := by rfl) (hf : X.fn x = true ∨ X.env.scope.names.lookup x = some .local := by first | exact .inl rfl | exact .inr rfl | assumption) :
    QS X (.Assign [.Name x pos'] e pos) (tAsg te (gName i)) := ⟨ps_set hN hi hx he.h hs hf⟩
theorem qs_dput (hu : X.A.units + 1 < cLine) (ho : QE X o td) (hi : QE X i ty) (hv : QE X value tv) (hs : swapsWith value (some (.Subscript o i pos')) pos.line X.env = pure false) : QS X (.Assign [.Subscript o i pos'] value pos) (sDPut td ty tv) := ⟨ps_dput hu ho.h hi.h hv.h hs⟩
/-! iterators, targets -/
theorem qi_range1 (hg : Gl X "range") (hm : X.mg "range" = none) (ha : QA X [a] t) (hs : starEach [a] X.env = [(false, eval a X.env)] := by rfl) : QI X tg (.Call (.Name "range" p) [a] [] pos) (iRng1 t) := ⟨pi_range1 hg hm ha.h hs⟩
theorem qi_range2 (hg : Gl X "range") (hm : X.mg "range" = none) (ha : QA X [a, b] t) (hs : starEach [a, b] X.env = [(false, eval a X.env), (false, eval b X.env)] := by rfl) (hs2 : starEach [b] X.env = [(false, eval b X.env)] := by rfl) : QI X tg (.Call (.Name "range" p) [a, b] [] pos) (iRng2 t) := ⟨pi_range2 hg hm ha.h hs hs2⟩
theorem qi_sq (hl : QE X l tl) : QI X tg l (iSq X.K tl) := ⟨pi_sq hl.h⟩
theorem qg_name {i : Nat} (hN : X.N.Nodup) (hi : X.N[i]? = some x) (hx : Loc X.env.scope x) (hf : X.fn x = true ∨ X.env.scope.names.lookup x = some .local := by first | exact .inl rfl | exact .inr rfl | assumption) : QG X (.Name x pos) (gName i) := ⟨pg_name hN hi hx hf⟩
end
theorem FunAt.goodQ {P : Program} {w : World} {K : PySem.W.Frag} {mg : Str → Option Value} {base : Heap} {x : Str} {st : Stmt} {N ps : List Str} {k : Nat} {sp : Sp} {sc : Scope} {bd : List Stmt} (hsc : defScope st = sc) (hbd : defBody st = bd) (F : FunAt K mg x st ps) (S : FnScope N ps sc) (len : ∀ vs H Q E, sp vs H Q E → vs.length = ps.length)
    (hbody : ∀ (f : Addr) (cdv : Value) (A : Around) (outer : List Env) (s : Shared) (H : Hp) (vs : List V) (Q : VK) (E : XK), Room k (A.deeper (envOfC x sc s.heap.objs.size f cdv)) → sp vs H Q E →
      ∃ t, QB (cxOf CX0 P w K mg base N x sc f cdv A outer s H E).nox bd t ∧ t { nx := fun _ H' => Q .non H', rt := Q } (L2.start N vs) H) : Good P w K mg base CX0 (k + 1) x ps sp :=
  F.goodL hsc hbd S len fun f cdv A outer s H vs Q E hr h => let ⟨t, h1, h2⟩ := hbody f cdv A outer s H vs Q E hr h; ⟨t, h1.h, h2⟩
theorem Fun.okQ {P : Program} {w : World} {K : PySem.W.Frag} {mg : Str → Option Value} {base : Heap} {x qual : Str} {st : Stmt} {f : Addr} {fd : FuncData} {N ps : List Str} {k : Nat} {sp : Sp} {sc : Scope} {bd : List Stmt} (hsc : defScope st = sc) (hbd : defBody st = bd) (F : Fun K x qual st f fd) (S : FnScope N ps sc) (len : ∀ vs H Q E, sp vs H Q E → vs.length = ps.length)
    (hbody : ∀ (cdv : Value) (A : Around) (outer : List Env) (s : Shared) (H : Hp) (vs : List V) (Q : VK) (E : XK), Room k (A.deeper (envOfC qual sc s.heap.objs.size f cdv)) → sp vs H Q E →
      ∃ t, QB (cxOf CX0 P w K mg base N qual sc f cdv A outer s H E).nox bd t ∧ t { nx := fun _ H' => Q .non H', rt := Q } (L2.start N vs) H) : FnOk P w K mg base CX0 (k + 1) f fd ps sp :=
  F.okL hsc hbd S len fun cdv A outer s H vs Q E hr h => let ⟨t, h1, h2⟩ := hbody cdv A outer s H vs Q E hr h; ⟨t, h1.h, h2⟩
end L2
namespace L2
open PySem PySem.Spec PyProof.Rows
section
variable {t1 t2 t3 t4 t5 t6 t7 t8 u : TS} {D : Ends} {σ : St} {H : Hp}
theorem seq_R3 (R : St → Hp → Prop) (ht : ∀ N : St → Hp → Prop, (∀ σ' H', R σ' H' → N σ' H') → tSeq t1 (tSeq t2 t3) { D with nx := N } σ H) (hu : ∀ σ' H', R σ' H' → u D σ' H') : tSeq t1 (tSeq t2 (tSeq t3 u)) D σ H := ht (u D) hu
end
end L2
namespace L2
open PySem PySem.Spec PyProof.Rows
/-! ### range(a, b, -1) -/
def Itd (lo : Int) (n : Nat) : It := ⟨fun i _ => i < n, fun i H x H' => H' = H ∧ x = .int (lo - i), fun i _ => n ≤ i⟩
section
variable {X : Cx} {tg : Expr}
def asI3 (vs : List V) (R : Int → Int → Int → Prop) : Prop := ∃ i j k, vs = [.int i, .int j, .int k] ∧ R i j k
theorem asI3_eq (i j k : Int) (R : Int → Int → Int → Prop) : asI3 [.int i, .int j, .int k] R = R i j k := by
  refine propext ⟨fun ⟨_, _, _, e, q⟩ => ?_, fun q => ⟨i, j, k, rfl, q⟩⟩
  cases e; exact q
def iRngD (ta : TA) : TI := fun σ H R => ta σ H fun vs H1 => asI3 vs fun i j k => k = -1 ∧ (-(2 ^ 62) ≤ i ∧ i < 2 ^ 62 ∧ -(2 ^ 62) ≤ j ∧ j < 2 ^ 62) ∧ R (Itd i (i - j).toNat) H1
end
def ForD (lo : Int) (n : Nat) (g : TG) (tb : TS) (D : Ends) (σ : St) (H : Hp) : Prop := ∃ W : Nat → Nat → St → Hp → Prop, (∃ m, W 0 m σ H) ∧ ∀ i m σ H, W i m σ H →
  ((Itd lo n).stop i H ∧ D.nx σ H) ∨ ((Itd lo n).go i H ∧ ∃ N : St → Hp → Prop, (∀ σ' H', N σ' H' → ∃ m', m' < m ∧ W (i + 1) m' σ' H') ∧ ∀ x H', (Itd lo n).yld i H x H' → g x σ H' fun σ2 H2 => tb { D with nx := N, ct := N, bk := D.nx } σ2 H2)
theorem rd_forD (ta : TA) (g : TG) (tb : TS) (D : Ends) (σ : St) (H : Hp) : tFor (iRngD ta) g tb D σ H = ta σ H (fun vs H1 => asI3 vs fun i j k => k = -1 ∧ (-(2 ^ 62) ≤ i ∧ i < 2 ^ 62 ∧ -(2 ^ 62) ≤ j ∧ j < 2 ^ 62) ∧ ForD i (i - j).toNat g tb D σ H1) := rfl
theorem ForD.go {lo : Int} {n : Nat} {g : TG} {tb : TS} {D : Ends} {σ : St} {H : Hp} (Pv : Nat → St → Hp → Prop) (h0 : Pv 0 σ H)
    (hs : ∀ (i : Nat) (σ : St) (H : Hp) (N : St → Hp → Prop), i < n → Pv i σ H → (∀ σ' H', Pv (i + 1) σ' H' → N σ' H') → g (.int (lo - i)) σ H fun σ2 H2 => tb { D with nx := N, ct := N, bk := D.nx } σ2 H2) (hd : ∀ σ H, Pv n σ H → D.nx σ H) : ForD lo n g tb D σ H := by
  refine ⟨fun i m σ H => m = n - i ∧ i ≤ n ∧ Pv i σ H, ⟨n, by simp, Nat.zero_le _, h0⟩, ?_⟩
  rintro i m σ H ⟨rfl, hi, p⟩
  by_cases hlt : i < n
  · refine .inr ⟨hlt, Pv (i + 1), fun σ' H' p' => ⟨n - (i + 1), by omega, rfl, hlt, p'⟩, fun x H' y => ?_⟩
    obtain ⟨e, y⟩ := y
    subst e y
    exact hs i σ _ _ hlt p fun _ _ q => q
  · have e : i = n := by omega
    subst e
    exact .inl ⟨Nat.le_refl _, hd σ H p⟩
end L2

namespace L2
open PySem PySem.Spec PyProof.Rows
section
variable {X : Cx}
/-! ### texts: join, find -/
def rJoin (K : PySem.W.Frag) : V → List V → Hp → VK → Prop := fun x vs H Q => ∃ (z : Str) (l : Addr) (ss : List Str), x = .str z ∧ vs = [.ref l] ∧ SqL K H l (ss.map V.str) ∧ (ss.map (·.length)).sum + ss.length * z.length ≤ 16777216 ∧ Q (.str (Txt.join z ss)) H
theorem rJoin_eq (K : PySem.W.Frag) (z : Str) (l : Addr) (H : Hp) (Q : VK) : rJoin K (.str z) [.ref l] H Q = ∃ ss : List Str, SqL K H l (ss.map V.str) ∧ (ss.map (·.length)).sum + ss.length * z.length ≤ 16777216 ∧ Q (.str (Txt.join z ss)) H := by
  refine propext ⟨fun ⟨_, _, ss, e1, e2, h⟩ => ?_, fun ⟨ss, h⟩ => ⟨z, l, ss, rfl, rfl, h⟩⟩
  cases e1; cases e2; exact ⟨ss, h⟩
def rFind : V → List V → Hp → VK → Prop := fun x vs H Q => ∃ (z y : Str), x = .str z ∧ vs = [.str y] ∧ Q (.int (match Builtin.Str.occurrences z y 0 z.length 1 with | i :: _ => (i : Int) | [] => -1)) H
theorem rFind_eq (z y : Str) (H : Hp) (Q : VK) : rFind (.str z) [.str y] H Q = Q (.int (match Builtin.Str.occurrences z y 0 z.length 1 with | i :: _ => (i : Int) | [] => -1)) H := by
  refine propext ⟨fun ⟨_, _, e1, e2, h⟩ => ?_, fun h => ⟨z, y, rfl, rfl, h⟩⟩
  cases e1; cases e2; exact h
theorem rd_ixS (z : Str) (i : Int) (H : Hp) (Q : VK) : rIxS (.str z) (.int i) H Q = (z.length ≤ sizeLine ∧ ∃ c, atI z.cps.toList i = some c ∧ Q (.str ⟨#[c]⟩) H) := by
  refine propext ⟨fun ⟨_, _, c, e1, e2, h1, h2, q⟩ => ?_, fun ⟨h1, c, h2, q⟩ => ⟨z, i, c, rfl, rfl, h1, h2, q⟩⟩
  cases e1; cases e2; exact ⟨h1, c, h2, q⟩
/-! ### xs == [] and lists of flat items -/
def rEqL (K : PySem.W.Frag) : R2 := fun x y H Q => ∃ a b xs ys, x = .ref a ∧ y = .ref b ∧ SqL K H a xs ∧ SqL K H b ys ∧ ys = [] ∧ Q (.bl (decide (xs = []))) H
theorem rEqL_eq (K : PySem.W.Frag) (a b : Addr) (H : Hp) (Q : VK) : rEqL K (.ref a) (.ref b) H Q = ∃ xs, SqL K H a xs ∧ SqL K H b [] ∧ Q (.bl (decide (xs = []))) H := by
  refine propext ⟨fun ⟨_, _, xs, ys, e1, e2, h1, h2, e3, q⟩ => ?_, fun ⟨xs, h1, h2, q⟩ => ⟨a, b, xs, [], rfl, rfl, h1, h2, rfl, q⟩⟩
  cases e1; cases e2; subst e3; exact ⟨xs, h1, h2, q⟩
/-! ### xs[::-1] -/
def tRev (K : PySem.W.Frag) (te : TE) : TE := fun σ H Q => te σ H fun x H1 => asR x fun a => ∃ xs, SqL K H1 a xs ∧ ∀ p, H1 p = none → Q (.ref p) (upd H1 p (.lst xs.reverse))
theorem rd_rev (K : PySem.W.Frag) (te : TE) (σ : St) (H : Hp) (Q : VK) : tRev K te σ H Q = te σ H fun x H1 => asR x fun a => ∃ xs, SqL K H1 a xs ∧ ∀ p, H1 p = none → Q (.ref p) (upd H1 p (.lst xs.reverse)) := rfl
end
/-! ### a text, sign by sign -/
def Its (x : Str) : It := ⟨fun i _ => i < x.cps.size, fun i H v H' => H' = H ∧ ∃ c, x.cps[i]? = some c ∧ v = .str ⟨#[c]⟩, fun i _ => i = x.cps.size⟩
section
variable {X : Cx} {y : Str} {px : Pos}
def asS (x : V) (R : Str → Prop) : Prop := ∃ z, x = .str z ∧ R z
theorem asS_eq (z : Str) (R : Str → Prop) : asS (.str z) R = R z := by
  refine propext ⟨fun ⟨_, e, q⟩ => ?_, fun q => ⟨z, rfl, q⟩⟩
  cases e; exact q
def iStr (tl : TE) : TI := fun σ H R => tl σ H fun x H1 => asS x fun z => R (Its z) H1
end
def LCT (z : Str) (te : TE) (σ : St) (H1 : Hp) (Q : VK) : Prop := ∀ D, H1 D = none → ∃ W : Nat → Nat → Hp → Prop, (∃ m, W 0 m (upd H1 D (.lst []))) ∧ ∀ i m H2, W i m H2 →
    ((Its z).stop i H2 ∧ Q (.ref D) H2) ∨ ((Its z).go i H2 ∧ ∀ x H', (Its z).yld i H2 x H' → te (some x :: σ) H' fun y H3 => ∃ ys, H3 D = some (.lst ys) ∧ ys.length < sizeLine ∧ ∃ m', m' < m ∧ W (i + 1) m' (upd H3 D (.lst (ys ++ [y]))))
theorem rd_lcT (tl te : TE) (σ : St) (H : Hp) (Q : VK) : tLC (iStr tl) te σ H Q = tl σ H fun x H1 => asS x fun z => LCT z te σ H1 Q := rfl
theorem LCT.map {z : Str} {te : TE} {σ : St} {H : Hp} {Q : VK} (hlen : z.cps.size < sizeLine) (f : Nat → V)
    (hs : ∀ (i c : Nat) (H2 : Hp) (R : VK), z.cps[i]? = some c → Same H H2 → (∀ H3, Same H2 H3 → R (f c) H3) → te (some (.str ⟨#[c]⟩) :: σ) H2 R)
    (hd : ∀ D H2, H D = none → H2 D = some (.lst (z.cps.toList.map f)) → Same H H2 → Q (.ref D) H2) : LCT z te σ H Q := by
  intro D hD
  refine ⟨fun i m H2 => m = z.cps.size - i ∧ i ≤ z.cps.size ∧ H2 D = some (.lst ((z.cps.toList.take i).map f)) ∧ Same H H2, ⟨z.cps.size, by simp, Nat.zero_le _, by simpa using upd_same, Same.new hD⟩, ?_⟩
  rintro i m H2 ⟨rfl, hi, hD2, hsm⟩
  by_cases hlt : i < z.cps.size
  · refine .inr ⟨hlt, fun x H' hy => ?_⟩
    obtain ⟨rfl, c, hc, rfl⟩ := hy
    refine hs i c _ _ hc hsm fun H3 h3 => ⟨_, h3 _ _ hD2, by rw [List.length_map, List.length_take, Array.length_toList]; omega, z.cps.size - (i + 1), by omega, rfl, hlt, ?_, fun b o e => ?_⟩
    · rw [upd_same, List.take_add_one]
      have : z.cps.toList[i]? = some c := by rw [← hc]; simp
      rw [this]
      simp
    · rw [upd_ne (ne_of_none e hD)]
      exact h3 _ _ (hsm _ _ e)
  · have e : i = z.cps.size := by omega
    subst e
    refine .inl ⟨rfl, hd D H2 hD ?_ hsm⟩
    rw [hD2, List.take_of_length_le (by simp)]
end L2

namespace My
open PySem L2
abbrev vI (n : Nat) : V := .int (n : Int)
theorem small_line {n : Nat} (h : n ≤ 1000000) : n < sizeLine := Nat.lt_of_le_of_lt h (by decide)
/-! ### powers -/
theorem log2_lt_of_small {j : Int} (h0 : 0 ≤ j) (h : j < 1000000000000) : j.natAbs.log2 < 9000 := by
  have : j.natAbs < 2 ^ 9000 := by
    have h1 : j.natAbs < 1000000000000 := by omega
    exact Nat.lt_of_lt_of_le h1 (by decide +kernel)
  by_cases hz : j.natAbs = 0
  · rw [hz]; decide
  · exact (Nat.log2_lt hz).2 this
theorem cdiv_of {i j : Int} (h0 : 0 < j) (h : j < 1000000000000) : CDivL i j := ⟨h0, log2_lt_of_small (by omega) h⟩
/-! ### the figures of a number, the last first -/
def fl (b n : Nat) : List Nat := if h : 2 ≤ b ∧ b ≤ n then n % b :: fl b (n / b) else [n]
termination_by n
decreasing_by exact Nat.div_lt_self (by omega) h.1
theorem fl_lt {b n : Nat} (h : n < b) : fl b n = [n] := by rw [fl, dif_neg (by omega)]
theorem fl_ge {b n : Nat} (hb : 2 ≤ b) (h : b ≤ n) : fl b n = n % b :: fl b (n / b) := by rw [fl, dif_pos ⟨hb, h⟩]
theorem fl_ne {b n : Nat} : fl b n ≠ [] := by rw [fl]; split <;> simp
theorem fl_mem {b : Nat} (hb : 2 ≤ b) : ∀ (n : Nat), ∀ d ∈ fl b n, d < b := by
  intro n
  induction n using Nat.strongRecOn with
  | _ n ih =>
    intro d hd
    by_cases h : b ≤ n
    · rw [fl_ge hb h] at hd
      rcases List.mem_cons.mp hd with e | e
      · rw [e]; exact Nat.mod_lt _ (by omega)
      · exact ih _ (Nat.div_lt_self (by omega) (by omega)) d e
    · rw [fl_lt (by omega)] at hd
      have := List.mem_singleton.mp hd
      omega
/-- the number that figures write, the last first -/
def val (b : Nat) : List Nat → Nat
  | [] => 0
  | d :: r => d + b * val b r
theorem val_fl {b : Nat} (hb : 2 ≤ b) : ∀ n : Nat, val b (fl b n) = n := by
  intro n
  induction n using Nat.strongRecOn with
  | _ n ih =>
    by_cases h : b ≤ n
    · rw [fl_ge hb h, val, ih _ (Nat.div_lt_self (by omega) (by omega))]
      exact Nat.mod_add_div n b
    · rw [fl_lt (by omega)]; simp [val]
/-- the greatest place is not 0 but where it stands alone -/
theorem fl_top {b : Nat} (hb : 2 ≤ b) : ∀ n : Nat, (fl b n).length = 1 ∨ (fl b n).getLast? ≠ some 0 := by
  intro n
  induction n using Nat.strongRecOn with
  | _ n ih =>
    by_cases h : b ≤ n
    · right
      rw [fl_ge hb h]
      rw [List.getLast?_cons]
      have hne := @fl_ne b (n / b)
      have hd : 1 ≤ n / b := Nat.le_div_iff_mul_le (by omega) |>.2 (by omega)
      intro e
      have e2 : (fl b (n / b)).getLast? = some 0 := by
        cases q : (fl b (n / b)).getLast? with
        | none => exact absurd (List.getLast?_eq_none_iff.mp q) hne
        | some x => rw [q] at e; simpa using e
      rcases ih (n / b) (Nat.div_lt_self (by omega) (by omega)) with h1 | h1
      · by_cases h2 : b ≤ n / b
        · rw [fl_ge hb h2, List.length_cons] at h1
          have := List.length_pos_iff.mpr (@fl_ne b (n / b / b))
          omega
        · rw [fl_lt (by omega)] at e2
          simp at e2
          omega
      · exact h1 e2
    · left; rw [fl_lt (by omega)]; rfl
/-! ### the script -/
def cell (ns : List Int) (k : Nat) : Int := ns.getD k 0
def mixed (c p : Int) : Int := ((c % 2147483647 + 7919 * p + 17) * 48271 % 2147483647 + 101 * p) * 69621 % 2147483629
/-! ### falls -/
def wt (ws : List Nat) (d : Nat) : Nat := ws.getD d 0
def fall (ws : List Nat) (n : Nat) : Nat := ((fl ws.length n).map (wt ws)).sum
theorem sum_rev (l : List Nat) : l.reverse.sum = l.sum := by
  induction l with
  | nil => rfl
  | cons x r ih => simp only [List.reverse_cons, List.sum_append, List.sum_cons, List.sum_nil, ih]; omega
theorem wt_get {ws : List Nat} {d : Nat} (h : d < ws.length) : ws[d]? = some (wt ws d) := by
  unfold wt
  rw [List.getD_eq_getElem?_getD, List.getElem?_eq_getElem h]
  rfl
theorem emod_nat {x : Int} {m : Nat} (h : 0 < m) : ∃ r : Nat, x % (m : Int) = (r : Int) ∧ r < m := by
  have h0 : 0 ≤ x % (m : Int) := Int.emod_nonneg _ (by omega)
  have h1 : x % (m : Int) < (m : Int) := Int.emod_lt_of_pos _ (by omega)
  exact ⟨(x % (m : Int)).toNat, by omega, by omega⟩
/-! ### how often each figure stands -/
theorem ixN_nat {n i : Nat} (h : i < n) : ixN n (i : Int) = some i := by
  unfold ixN
  rw [if_pos (by omega), if_pos (by omega)]
  rfl
/-! ### rows put together -/
theorem val_append (b : Nat) : ∀ (xs : List Nat) (d : Nat), val b (xs ++ [d]) = val b xs + d * b ^ xs.length
  | [], d => by simp [val]
  | x :: r, d => by
    rw [List.cons_append, val, val, val_append b r d, List.length_cons, Nat.pow_succ, Nat.mul_add]
    have : b * (d * b ^ r.length) = d * (b ^ r.length * b) := by rw [Nat.mul_comm b, Nat.mul_assoc]
    omega
theorem val_lt {b : Nat} (hb : 2 ≤ b) : ∀ ds : List Nat, (∀ d ∈ ds, d < b) → val b ds < b ^ ds.length
  | [], _ => by simp [val]
  | d :: r, h => by
    have h1 := val_lt hb r fun x hx => h x (List.mem_cons_of_mem _ hx)
    have h2 := h d List.mem_cons_self
    rw [val, List.length_cons, Nat.pow_succ, Nat.mul_comm (b ^ r.length) b]
    have h3 : b * (val b r + 1) ≤ b * b ^ r.length := Nat.mul_le_mul_left _ h1
    rw [Nat.mul_add] at h3
    omega
theorem val_pos {b : Nat} (hb : 2 ≤ b) : ∀ ds : List Nat, ds ≠ [] → ds.getLast? ≠ some 0 → 1 ≤ val b ds
  | [], h, _ => absurd rfl h
  | [d], _, h => by
    rw [val, val]
    have : d ≠ 0 := fun e => h (by rw [e]; rfl)
    omega
  | d :: e :: r, _, h => by
    have h1 := val_pos hb (e :: r) (by simp) (by rw [List.getLast?_cons_cons] at h; exact h)
    rw [val]
    have : b * 1 ≤ b * val b (e :: r) := Nat.mul_le_mul_left _ h1
    omega
theorem fl_val {b : Nat} (hb : 2 ≤ b) : ∀ ds : List Nat, ds ≠ [] → (∀ d ∈ ds, d < b) → (ds.length = 1 ∨ ds.getLast? ≠ some 0) → fl b (val b ds) = ds
  | [], h, _, _ => absurd rfl h
  | [d], _, h, _ => by
    have := h d List.mem_cons_self
    rw [val, val, fl_lt (by omega)]
    simp
  | d :: e :: r, _, h, ht => by
    have ht' : (e :: r).getLast? ≠ some 0 := by
      rcases ht with z | z
      · simp at z
      · rw [List.getLast?_cons_cons] at z; exact z
    have h1 := val_pos hb (e :: r) (by simp) ht'
    have ih := fl_val hb (e :: r) (by simp) (fun x hx => h x (List.mem_cons_of_mem _ hx)) (.inr ht')
    have hd := h d List.mem_cons_self
    have h2 : b * 1 ≤ b * val b (e :: r) := Nat.mul_le_mul_left _ h1
    rw [val, fl_ge hb (by omega)]
    have e1 : (d + b * val b (e :: r)) % b = d := by rw [Nat.add_mul_mod_self_left, Nat.mod_eq_of_lt hd]
    have e2 : (d + b * val b (e :: r)) / b = val b (e :: r) := by
      rw [Nat.add_mul_div_left _ _ (by omega), Nat.div_eq_of_lt hd, Nat.zero_add]
    rw [e1, e2, ih]
/-- the number that a row writes, the greatest place first -/
def num (b : Nat) (rs : List Nat) : Nat := val b rs.reverse
/-- what a row of figures may be -/
structure RowOk (b : Nat) (rs : List Nat) : Prop where
  lt : ∀ d ∈ rs, d < b
  ne : rs ≠ []
  le : rs.length ≤ 1001
  hd : rs.length = 1 ∨ rs.head? ≠ some 0
theorem RowOk.num_lt {b : Nat} {rs : List Nat} (h : RowOk b rs) (hb : 2 ≤ b) : num b rs < b ^ 1001 := by
  have := val_lt hb rs.reverse fun d hd => h.lt d (List.mem_reverse.mp hd)
  refine Nat.lt_of_lt_of_le this (Nat.pow_le_pow_right (by omega) ?_)
  rw [List.length_reverse]; exact h.le
theorem RowOk.fl {b : Nat} {rs : List Nat} (h : RowOk b rs) (hb : 2 ≤ b) : My.fl b (num b rs) = rs.reverse := by
  refine fl_val hb rs.reverse (by simpa using h.ne) (fun d hd => h.lt d (List.mem_reverse.mp hd)) ?_
  rw [List.length_reverse, List.getLast?_reverse]
  exact h.hd
/-! ### falls by the figures -/
theorem fall_lt {ws : List Nat} {n : Nat} (h : n < ws.length) : fall ws n = wt ws n := by unfold fall; rw [fl_lt h]; simp
/-! ### walking on and on -/
def it (f : Nat → Nat) (n : Nat) : Nat → Nat
  | 0 => n
  | i + 1 => f (it f n i)
theorem it_shift (f : Nat → Nat) (n : Nat) : ∀ i, it f n (i + 1) = it f (f n) i
  | 0 => rfl
  | i + 1 => by rw [it, it_shift f n i, it]
theorem it_add (f : Nat → Nat) (n i : Nat) : ∀ j, it f n (i + j) = it f (it f n i) j
  | 0 => rfl
  | j + 1 => by rw [← Nat.add_assoc, it, it_add f n i j, it]
def path (f : Nat → Nat) (n k : Nat) : List Nat := (List.range k).map (it f n)
theorem path_len (f : Nat → Nat) (n k : Nat) : (path f n k).length = k := by unfold path; rw [List.length_map, List.length_range]
theorem path_get {f : Nat → Nat} {n k i : Nat} (h : i < k) : (path f n k)[i]? = some (it f n i) := by unfold path; rw [List.getElem?_map, List.getElem?_range h]; rfl
theorem mem_path {f : Nat → Nat} {n k x : Nat} : x ∈ path f n k ↔ ∃ i, i < k ∧ it f n i = x := by
  unfold path
  rw [List.mem_map]
  exact ⟨fun ⟨i, hi, e⟩ => ⟨i, List.mem_range.mp hi, e⟩, fun ⟨i, hi, e⟩ => ⟨i, List.mem_range.mpr hi, e⟩⟩
theorem nodup_get {l : List Nat} (h : l.Nodup) {i j x : Nat} (hi : l[i]? = some x) (hj : l[j]? = some x) : i = j := by
  obtain ⟨h1, e1⟩ := List.getElem?_eq_some_iff.mp hi
  obtain ⟨h2, e2⟩ := List.getElem?_eq_some_iff.mp hj
  exact (List.getElem_inj h).mp (e1.trans e2.symm)
theorem pigeon : ∀ (n : Nat) (l : List Nat), l.Nodup → (∀ x ∈ l, x < n) → l.length ≤ n
  | 0, l, _, h => by
    cases l with
    | nil => exact Nat.le_refl _
    | cons x r => exact absurd (h x List.mem_cons_self) (Nat.not_lt_zero _)
  | n + 1, l, hn, h => by
    have h1 : (l.erase n).length ≤ n := pigeon n (l.erase n) (hn.erase n) fun x hx => by
      obtain ⟨h1, h2⟩ := hn.mem_erase_iff.mp hx
      have := h x h2
      omega
    by_cases hm : n ∈ l
    · rw [List.length_erase_of_mem hm] at h1; omega
    · rw [List.erase_of_not_mem hm] at h1; omega
/-- after k turns it comes to one that stood there already, and not before -/
structure IsLen (f : Nat → Nat) (n k : Nat) : Prop where
  nd : (path f n k).Nodup
  me : it f n k ∈ path f n k
theorem IsLen.le {f : Nat → Nat} {n k k' : Nat} (h : IsLen f n k) (h' : (path f n k').Nodup) : k' ≤ k := by
  apply Nat.le_of_not_lt
  intro hlt
  obtain ⟨i, hi, e⟩ := mem_path.mp h.me
  have := nodup_get h' (path_get (f := f) (n := n) (show k < k' by omega)) (by rw [← e]; exact path_get (show i < k' by omega))
  omega
theorem IsLen.uniq {f : Nat → Nat} {n k k' : Nat} (h : IsLen f n k) (h' : IsLen f n k') : k = k' := Nat.le_antisymm (h'.le h.nd) (h.le h'.nd)
theorem path_short {f : Nat → Nat} {n k B : Nat} (hB : ∀ i, it f n (i + 1) ≤ B) (h : (path f n k).Nodup) : k ≤ B + 2 := by
  cases k with
  | zero => omega
  | succ k =>
    have e : path f n (k + 1) = n :: path f (f n) k := by
      unfold path
      rw [List.range_succ_eq_map, List.map_cons, List.map_map]
      congr 1
      exact List.map_congr_left fun i _ => it_shift f n i
    rw [e] at h
    have h2 := (List.nodup_cons.mp h).2
    have h3 := pigeon (B + 1) (path f (f n) k) h2 fun x hx => by
      obtain ⟨i, _, rfl⟩ := mem_path.mp hx
      have e2 := it_shift f n i
      have e3 := hB i
      omega
    rw [path_len] at h3
    omega
/-! ### dicts whose keys are numbers -/
/-! ### cuts -/
theorem cut_from {xs : List V} {s : Nat} (h : s ≤ xs.length) : cutV xs (some (s : Int)) none = xs.drop s := by
  unfold cutV
  rw [HT.sIx_nat, HT.sIx_none, Nat.min_eq_left h, List.take_of_length_le (by rw [List.length_drop]; omega)]
/-! ### the least first -/
structure IsLow (R : List Nat) (s : Nat) : Prop where
  ex : ∃ M, R[s]? = some M ∧ (∀ a ∈ R, M ≤ a) ∧ ∀ m, m < s → R[m]? ≠ some M
theorem IsLow.uniq {R : List Nat} {s s' : Nat} (h : IsLow R s) (h' : IsLow R s') : s = s' := by
  obtain ⟨M, h1, h2, h3⟩ := h.ex
  obtain ⟨M', h1', h2', h3'⟩ := h'.ex
  have e : M = M' := Nat.le_antisymm (h2 _ (List.mem_of_getElem? h1')) (h2' _ (List.mem_of_getElem? h1))
  subst e
  rcases Nat.lt_trichotomy s s' with z | z | z
  · exact absurd h1 (h3' s z)
  · exact z
  · exact absurd h1' (h3 s' z)
theorem IsLow.lt {R : List Nat} {s : Nat} (h : IsLow R s) : s < R.length := by
  obtain ⟨M, h1, _⟩ := h.ex
  exact (List.getElem?_eq_some_iff.mp h1).1
def rot (R : List Nat) (s : Nat) : List Nat := R.drop s ++ R.take s
theorem rot_len (R : List Nat) (s : Nat) : (rot R s).length = R.length := by
  unfold rot
  rw [List.length_append, List.length_drop, List.length_take]
  omega
/-- the ring that n comes to, its least number first, and after how many falls -/
structure RingOf (f : Nat → Nat) (n : Nat) (R : List Nat) (j : Nat) : Prop where
  ex : ∃ k s, IsLen f n k ∧ j < k ∧ it f n j = it f n k ∧ IsLow ((path f n k).drop j) s ∧ R = rot ((path f n k).drop j) s
theorem RingOf.uniq {f : Nat → Nat} {n j j' : Nat} {R R' : List Nat} (h : RingOf f n R j) (h' : RingOf f n R' j') : R = R' ∧ j = j' := by
  obtain ⟨k, s, h1, h2, h3, h4, h5⟩ := h.ex
  obtain ⟨k', s', h1', h2', h3', h4', h5'⟩ := h'.ex
  have e := h1.uniq h1'
  subst e
  have e2 : j = j' := nodup_get h1.nd (path_get h2) (by rw [h3, ← h3']; exact path_get h2')
  subst e2
  have e3 := h4.uniq h4'
  subst e3
  exact ⟨h5.trans h5'.symm, rfl⟩
theorem RingOf.len {f : Nat → Nat} {n j : Nat} {R : List Nat} (h : RingOf f n R j) {B : Nat} (hB : ∀ i, it f n (i + 1) ≤ B) : R.length ≤ B + 2 ∧ 0 < R.length ∧ j ≤ B + 2 := by
  obtain ⟨k, s, h1, h2, h3, h4, h5⟩ := h.ex
  have := path_short hB h1.nd
  rw [h5, rot_len, List.length_drop, path_len]
  omega
theorem RingOf.mem {f : Nat → Nat} {n j : Nat} {R : List Nat} (h : RingOf f n R j) : ∀ x ∈ R, ∃ i, it f n i = x := by
  obtain ⟨k, s, h1, h2, h3, h4, h5⟩ := h.ex
  intro x hx
  rw [h5] at hx
  unfold rot at hx
  have : x ∈ path f n k := by
    rcases List.mem_append.mp hx with z | z
    · exact List.mem_of_mem_drop (List.mem_of_mem_drop z)
    · exact List.mem_of_mem_drop (List.mem_of_mem_take z)
  obtain ⟨i, _, e⟩ := mem_path.mp this
  exact ⟨i, e⟩
/-! ### where each number first stood -/
/-! ### the bound -/
structure IsBound (f : Nat → Nat) (B : Nat) : Prop where
  pos : 1 ≤ B
  at_ : B - 1 ≤ f (B - 1)
  from_ : ∀ n, B ≤ n → f n < n
theorem IsBound.uniq {f : Nat → Nat} {B B' : Nat} (h : IsBound f B) (h' : IsBound f B') : B = B' := by
  rcases Nat.lt_trichotomy B B' with z | z | z
  · have := h.from_ (B' - 1) (by omega)
    have := h'.at_
    omega
  · exact z
  · have := h'.from_ (B - 1) (by omega)
    have := h.at_
    omega
/-! ### rings -/
theorem path_drop (f : Nat → Nat) (n k j : Nat) : (path f n k).drop j = path f (it f n j) (k - j) := by
  refine List.ext_getElem? fun i => ?_
  rw [List.getElem?_drop]
  by_cases h : j + i < k
  · rw [path_get h, path_get (show i < k - j by omega), it_add]
  · rw [List.getElem?_eq_none (by rw [path_len]; omega), List.getElem?_eq_none (by rw [path_len]; omega)]
theorem it_loop {f : Nat → Nat} {x L : Nat} (h : it f x L = x) (t : Nat) : it f x (L + t) = it f x t := by rw [it_add, h]
theorem it_mod {f : Nat → Nat} {x L : Nat} (hL : 0 < L) (h : it f x L = x) (t : Nat) : it f x t = it f x (t % L) := by
  induction t using Nat.strongRecOn with
  | _ t ih =>
    by_cases ht : t < L
    · rw [Nat.mod_eq_of_lt ht]
    · have e : t = L + (t - L) := by omega
      rw [e, it_loop h, ih (t - L) (by omega), Nat.add_mod_left]
theorem rot_path {f : Nat → Nat} {x L s : Nat} (hs : s ≤ L) (h : it f x L = x) : rot (path f x L) s = path f (it f x s) L := by
  unfold rot
  refine List.ext_getElem? fun i => ?_
  rw [path_drop]
  by_cases h1 : i < L - s
  · rw [List.getElem?_append_left (by rw [path_len]; exact h1), path_get h1, path_get (by omega)]
  · rw [List.getElem?_append_right (by rw [path_len]; omega), path_len]
    by_cases h2 : i < L
    · rw [path_get h2, List.getElem?_take_of_lt (by omega), path_get (by omega), ← it_add, show s + i = L + (i - (L - s)) by omega, it_loop h]
    · rw [List.getElem?_eq_none (by rw [List.length_take, path_len]; omega), List.getElem?_eq_none (by rw [path_len]; omega)]
theorem rot_perm (R : List Nat) (s : Nat) : (rot R s).Perm R := by
  unfold rot
  exact (List.perm_append_comm).trans (by rw [List.take_append_drop])
/-- a ring as it is told -/
structure IsRing (f : Nat → Nat) (R : List Nat) (M L : Nat) : Prop where
  eq : R = path f M L
  pos : 0 < L
  loop : it f M L = M
  nd : (path f M L).Nodup
  low : ∀ x ∈ R, M ≤ x
theorem IsRing.isLen {f : Nat → Nat} {R : List Nat} {M L : Nat} (h : IsRing f R M L) : IsLen f M L := ⟨h.nd, by rw [h.loop]; exact mem_path.mpr ⟨0, h.pos, rfl⟩⟩
theorem IsRing.head {f : Nat → Nat} {R : List Nat} {M L : Nat} (h : IsRing f R M L) : R[0]? = some M := by rw [h.eq]; exact path_get h.pos
theorem IsRing.it_mem {f : Nat → Nat} {R : List Nat} {M L : Nat} (h : IsRing f R M L) (t : Nat) : it f M t ∈ R := by
  rw [h.eq, it_mod h.pos h.loop t]
  exact mem_path.mpr ⟨_, Nat.mod_lt _ h.pos, rfl⟩
theorem IsRing.mem_it {f : Nat → Nat} {R : List Nat} {M L : Nat} (h : IsRing f R M L) {x : Nat} (hx : x ∈ R) : ∃ i, i < L ∧ it f M i = x := by rw [h.eq] at hx; exact mem_path.mp hx
/-- every number of the ring comes to every other -/
theorem IsRing.back {f : Nat → Nat} {R : List Nat} {M L : Nat} (h : IsRing f R M L) {x : Nat} (hx : x ∈ R) : ∃ t, it f x t = M := by
  obtain ⟨i, hi, e⟩ := h.mem_it hx
  exact ⟨L - i, by rw [← e, ← it_add, show i + (L - i) = L by omega, h.loop]⟩
/-- two rings that one number comes to are one -/
theorem IsRing.uniq {f : Nat → Nat} {R R' : List Nat} {M M' L L' : Nat} (h : IsRing f R M L) (h' : IsRing f R' M' L') {n i i' : Nat} (hi : it f n i ∈ R) (hi' : it f n i' ∈ R') : R = R' ∧ M = M' := by
  have key : ∀ {R R' : List Nat} {M M' L L' : Nat}, IsRing f R M L → IsRing f R' M' L' → ∀ {i i' : Nat}, it f n i ∈ R → it f n i' ∈ R' → i ≤ i' → it f n i' ∈ R := fun {R R' M M' L L'} h h' {i i'} hi hi' hle => by
    obtain ⟨a, _, e⟩ := h.mem_it hi
    have : it f n i' = it f M (a + (i' - i)) := by rw [it_add, e, ← it_add, show i + (i' - i) = i' by omega]
    rw [this]
    exact h.it_mem _
  have fin : ∀ {R R' : List Nat} {M M' L L' : Nat}, IsRing f R M L → IsRing f R' M' L' → ∀ {y : Nat}, y ∈ R → y ∈ R' → M ≤ M' := fun {R R' M M' L L'} h h' {y} hy hy' => by
    obtain ⟨t, e⟩ := h'.back hy'
    obtain ⟨a, _, e2⟩ := h.mem_it hy
    refine h.low _ ?_
    rw [← e, ← e2, ← it_add]
    exact h.it_mem _
  have hm : ∃ y, y ∈ R ∧ y ∈ R' := by
    rcases Nat.le_total i i' with z | z
    · exact ⟨_, key h h' hi hi' z, hi'⟩
    · exact ⟨_, hi, key h' h hi' hi z⟩
  obtain ⟨y, hy, hy'⟩ := hm
  have e : M = M' := Nat.le_antisymm (fin h h' hy hy') (fin h' h hy' hy)
  subst e
  have e2 := h.isLen.uniq h'.isLen
  subst e2
  exact ⟨h.eq.trans h'.eq.symm, rfl⟩
theorem RingOf.ring {f : Nat → Nat} {n j : Nat} {R : List Nat} (h : RingOf f n R j) : ∃ M L i, IsRing f R M L ∧ it f n i = M := by
  obtain ⟨k, s, h1, h2, h3, h4, h5⟩ := h.ex
  have hL : it f (it f n j) (k - j) = it f n j := by rw [← it_add, show j + (k - j) = k by omega]; exact h3.symm
  have hd := path_drop f n k j
  have hs := h4.lt
  rw [List.length_drop, path_len] at hs
  obtain ⟨M, g1, g2, _⟩ := h4.ex
  rw [hd, path_get hs] at g1
  have eM : it f (it f n j) s = M := Option.some.inj g1
  have hR : R = path f M (k - j) := by rw [h5, hd, rot_path (by omega) hL, eM]
  have hp : R.Perm ((path f n k).drop j) := by rw [h5]; exact rot_perm _ _
  refine ⟨M, k - j, j + s, ⟨hR, by omega, ?_, ?_, fun x hx => g2 x (hp.mem_iff.mp hx)⟩, by rw [it_add]; exact eM⟩
  · rw [← eM, ← it_add, Nat.add_comm, it_add, hL]
  · rw [← hR]
    exact hp.nodup_iff.mpr (h1.nd.sublist (List.drop_sublist _ _))
/-- a number and what it falls to come to one ring -/
theorem RingOf.step {f : Nat → Nat} {n m j j' : Nat} {R R' : List Nat} (h : RingOf f n R j) (h' : RingOf f m R' j') (hm : ∃ t, it f n t = m) : R = R' := by
  obtain ⟨M, L, i, g, e⟩ := h.ring
  obtain ⟨M', L', i', g', e'⟩ := h'.ring
  obtain ⟨t, rfl⟩ := hm
  rw [← it_add] at e'
  exact (g.uniq g' (by rw [e]; exact g.it_mem 0) (by rw [e']; exact g'.it_mem 0)).1
/-! ### the same figures in another order -/
/-! ### signs -/
end My

namespace L2
open PySem PySem.Spec PyProof.Rows

theorem ObjOk.get {P : Program} {w : World} {H : Hp} {h : Heap} {a : Addr} {o : HO} (x : ObjOk P w H h a o) : ∃ u, h.get? a = some u := by
  cases o with
  | lst xs => obtain ⟨_, _, _, _, e⟩ := x; exact ⟨_, e⟩
  | tup xs => obtain ⟨_, _, _, p⟩ := x; obtain ⟨u, e, _⟩ := p; exact ⟨u, e⟩
  | dK kvs => obtain ⟨_, _, _, _, o, _, _, e, _⟩ := x; exact ⟨_, e⟩
  | dT kvs => obtain ⟨_, _, _, _, o, _, _, e, _⟩ := x; exact ⟨_, e⟩
  | set S n => obtain ⟨o, _, _, _, e, _⟩ := x; exact ⟨_, e⟩
  | ins C dx fs => obtain ⟨_, _, _, e, _⟩ := x; exact ⟨_, e⟩
  | own y => exact x
  | xd fs => obtain ⟨_, ⟨_, _, _, e, _⟩, _⟩ := x; exact ⟨_, e⟩
  | rng lo hi => obtain ⟨_, _, _, e⟩ := x; exact ⟨_, e⟩
  | frz ob u => obtain ⟨e, _⟩ := x; exact ⟨_, e⟩
  | tbl ps => exact ⟨_, show h.get? a = some _ from x⟩
  | met f y => exact ⟨_, show h.get? a = some _ from x⟩
  | ext φ => exact x.2.1
/-! ### an exception that flies: B is all that stays as it is -/
structure Fly (P : Program) (w : World) (l : List Env) (H H' : Hp) (s : Shared) (C : Value) (a : Addr) (B : Heap) (a0 : Value) (s' : Shared) : Prop where
  os : s'.os = s.os
  bare : AllBare s'.gens
  un : Un (frs l) [] H H' s.heap s'.heap
  fl : Heap.FlyingW B l a C a0 s'.heap
  hok : HOk P w H' B
  old : ∀ b o o', s.heap.get? b = some o → b ∉ frs l → s'.heap.get? b = some o' → B.get? b = some o'
  new : s.heap.get? a = none ∧ H' a = none
section
variable {P : Program} {w : World} {l outer : List Env} {env : Env} {H H' : Hp} {s s' : Shared} {C a0 : Value} {a : Addr} {B h' : Heap}
theorem Fly.ok (f : Fly P w l H H' s C a B a0 s') : HOk P w H' s'.heap := f.hok.kept f.fl.1
theorem frs_cons {b : Addr} : b ∈ frs (env :: outer) ↔ env.frame = some b ∨ b ∈ frs outer := by
  unfold frs
  rw [List.mem_filterMap, List.mem_filterMap]
  constructor
  · rintro ⟨e, he, h⟩
    rcases List.mem_cons.mp he with rfl | he
    · exact .inl h
    · exact .inr ⟨e, he, h⟩
  · rintro (h | ⟨e, he, h⟩)
    · exact ⟨env, .head _, h⟩
    · exact ⟨e, .tail _ he, h⟩
/-- the trace of it is written on: all else stays -/
theorem Fly.on (f : Fly P w l H H' s C a B a0 s') (g : Heap.FlyingW B l a C a0 h') (u : s'.heap.UpToSlots h') : Fly P w l H H' s C a B a0 { s' with heap := h' } := by
  have fr : ∀ b ∈ frs l, ∃ o, s'.heap.get? b = some o ∧ ∀ vs, o.data ≠ .fields vs := fun b hb => (f.fl.2.2.1.mem hb).2
  refine ⟨f.os, f.bare, ⟨fun b o e n hb hx => ?_, fun b o e n hb hx => ?_, f.un.free, fun b o e hx => ?_, f.un.tups, f.un.frzs, f.un.tbls⟩, g, f.hok, fun b o o' e hb e' => ?_, f.new⟩
  · exact g.1 b o (f.old b o o e hb (f.un.keep b o e n hb hx))
  · obtain ⟨sl, e1⟩ := f.un.slot b o e n hb hx
    obtain ⟨o1, e2, d⟩ := fr b hb
    obtain ⟨sl2, e3⟩ := u b o1 e2 d
    rw [e1] at e2; cases e2
    exact ⟨sl2, e3⟩
  · obtain ⟨o', e1⟩ := f.un.there b o e hx
    by_cases hb : b ∈ frs l
    · obtain ⟨o1, e2, d⟩ := fr b hb
      obtain ⟨sl2, e3⟩ := u b o1 e2 d
      exact ⟨_, e3⟩
    · exact ⟨o', g.1 b o' (f.old b o o' e hb e1)⟩
  · obtain ⟨o1, e1⟩ := f.un.there b o e (by simp)
    have e2 := f.old b o o1 e hb e1
    have e3 := g.1 b o1 e2
    rw [e3] at e'; cases e'
    exact e2
end
section
variable {X : Cx} {pins : List (Addr × Obj)} {σ : St} {H H' : Hp} {s s' : Shared} {C a0 : Value} {a : Addr} {B h' : Heap}
/-- what a flying exception leaves of this body's state -/
theorem Inv.flown (I : Inv X pins σ H s) (f : Fly X.prog X.w X.stack H H' s C a B a0 s') : Inv X pins σ H' s' :=
  I.call' (ch := []) f.os f.un f.ok f.bare (fun b z => absurd z (by simp))
theorem Inv.notOld (I : Inv X pins σ H s) {b : Addr} {o : Obj} (e : X.s₀.heap.get? b = some o) (hb : b ∉ X.fs) : b ∉ frs X.stack := fun z => by
  rcases List.mem_cons.mp (I.stkSub b z) with q | q
  · exact absurd (Heap.lt_size e) (Nat.not_lt.mpr (q ▸ I.ok.above))
  · exact hb q
/-- it leaves this body's frame -/
theorem Fly.out (I : Inv X pins σ H s) (hex : X.ex = []) (hst : X.stack = X.env :: X.outer) (f : Fly X.prog X.w X.stack H H' s C a B a0 s') (g : Heap.FlyingW B X.outer a C a0 h') (u : s'.heap.UpToSlots h') :
    Fly X.prog X.w X.outer X.H₀ H' X.s₀ C a B a0 { s' with heap := h' } := by
  have J := I.flown f
  have nx : ∀ b, b ∉ X.ex := fun b z => by rw [hex] at z; cases z
  have kp : ∀ b o o', X.s₀.heap.get? b = some o → b ∉ X.fs → s'.heap.get? b = some o' → B.get? b = some o' := fun b o o' e hb e' => by
    obtain ⟨o1, e1⟩ := I.base.there b o e (nx b)
    exact f.old b o1 o' e1 (I.notOld e hb) e'
  have fr : ∀ b ∈ X.fs, ∃ o, s'.heap.get? b = some o ∧ ∀ vs, o.data ≠ .fields vs := fun b hb => (f.fl.2.2.1.mem (show b ∈ (X.stack).filterMap (·.frame) by rw [hst]; exact frs_cons.mpr (.inr hb))).2
  have na : X.s₀.heap.get? a = none := by
    cases q : X.s₀.heap.get? a with
    | none => rfl
    | some o => obtain ⟨o1, e1⟩ := I.base.there a o q (nx a); rw [f.new.1] at e1; cases e1
  refine ⟨J.os, f.bare, ⟨fun b o e n hb hx => ?_, fun b o e n hb hx => ?_, fun b o e n _ => J.base.free b o e n (nx b), fun b o e hx => ?_, J.base.tups, J.base.frzs, J.base.tbls⟩, g, f.hok, fun b o o' e hb e' => ?_, na, f.new.2⟩
  · exact g.1 b o (kp b o o e hb (J.base.keep b o e n hb (nx b)))
  · obtain ⟨sl, e1⟩ := J.base.slot b o e n hb (nx b)
    obtain ⟨o1, e2, d⟩ := fr b hb
    obtain ⟨sl2, e3⟩ := u b o1 e2 d
    rw [e1] at e2; cases e2
    exact ⟨sl2, e3⟩
  · obtain ⟨o', e1⟩ := J.base.there b o e (nx b)
    by_cases hb : b ∈ X.fs
    · obtain ⟨o1, e2, d⟩ := fr b hb
      obtain ⟨sl2, e3⟩ := u b o1 e2 d
      exact ⟨_, e3⟩
    · exact ⟨o', g.1 b o' (kp b o o' e hb e1)⟩
  · obtain ⟨o1, e1⟩ := J.base.there b o e (nx b)
    have e2 := kp b o o1 e hb e1
    have e3 := g.1 b o1 e2
    rw [e3] at e'; cases e'
    exact e2

end
end L2

namespace PySem
open PySem.W
section
variable {prog : Program} {w : World} {A : Around} {E : Value → Shared → Prop} {h : Heap} {g : Array GenState} {d : Drawn} {t : Nat} {os : OsState} {a : Addr} {o : Obj} {K : Frag} {C : Addr}
end
end PySem

namespace L2
open PySem PySem.Spec PyProof.Rows PySem.W

abbrev bmV : List Value := [.type "ValueError", .type "Exception", .type "BaseException", .type "object"]
section
variable {X : Cx} {x n : Str} {C : Addr} {e : Expr} {te : TE} {np cpos pos hp : Pos} {E : XK} {i : Nat}
/-! ### try -/
variable {pins pins' : List (Addr × Obj)} {σ : St} {H H' : Hp} {s s' : Shared}
/-- except FE: one whose classes hold FE -/
structure CatchC (K : Frag) (FE : Addr) : Prop where
  ty : typeIn K (.ref FE) = some (.type "type")
  be : mroIn K FE (.type "BaseException") = some true
theorem CatchC.get {K : Frag} {FE : Addr} (c : CatchC K FE) {h : Heap} (X : K.In h) : ∃ d cd sl, h.get? FE = some ⟨.type "type", d, .cls cd, sl⟩ := by
  obtain ⟨cd, a1, _⟩ := Option.bind_eq_some_iff.mp c.be
  unfold clsIn at a1
  split at a1
  · rename_i c' d' cd' sl' ho
    have t : Option.map (fun x : Obj => x.cls) (List.lookup FE K) = some (.type "type") := c.ty
    rw [ho] at t
    cases t
    exact ⟨_, _, _, X _ _ ho⟩
  · cases a1
def Ends.less (D : Ends) (i : Nat) : Ends := { nx := fun σ H => D.nx (σ.set i none) H, rt := D.rt, bk := fun σ H => D.bk (σ.set i none) H, ct := fun σ H => D.ct (σ.set i none) H }
end
end L2

namespace L2
open PySem PySem.Spec PyProof.Rows
section
variable {X : Cx} {scope : Scope} {x y : Str} {px py pos spos : Pos} {elt iter : Expr} {wi : TI} {te : TE} {i : Nat}
end
/-! ### the classes of errors -/
open PySem.W
def exN : List Str := ["NotKept", "NameTaken", "HouseFull", "BadBase", "BadFigure", "BadRow", "BadWorth", "BadNumber", "NoRing", "NoPlace", "BadLength", "BadTarget", "NothingTold"]
/-- the address that a name of the module has in K -/
def exA (K : Frag) (x : Str) : Addr := match nsIn K mainGlobals x with
  | some (some (.ref C)) => C
  | _ => 0
def xn (i : Nat) : Str := exN.getD i "FallError"
/-- the i-th class; the 13th is the one above all -/
def xc (K : Frag) (i : Nat) : Addr := exA K (xn i)
structure ExcAt (K : Frag) (mg : Str → Option Value) (FE : Addr) (x : Str) (C : Addr) : Prop where
  bound : mg x = some (.ref C)
  exc : excIn K C bmV "ValueError.__new__" = true
  ga : findIn K (.ref C) "__getattribute__" = some (some (.builtin "BaseException.__getattribute__"))
  gn : findIn K (.ref C) "__getattr__" = some none
  cl : findIn K (.ref C) "__class__" = some (some (.builtin "object.__class__"))
  ty : typeIn K (.ref C) = some (.type "type")
  mro : ∃ cd, clsIn K C = some cd ∧ cd.mro = [.ref C, .ref FE, .type "ValueError", .type "Exception", .type "BaseException", .type "object"] ∧ cd.name = x
theorem ExcAt.sub {K : Frag} {mg : Str → Option Value} {FE C : Addr} {x : Str} (e : ExcAt K mg FE x C) (v : Value) : mroIn K C v = some ([.ref C, .ref FE, .type "ValueError", .type "Exception", .type "BaseException", .type "object"].contains v) := by
  obtain ⟨cd, h1, h2, _⟩ := e.mro
  unfold mroIn
  rw [h1]
  show (if cd.mro.isEmpty = true then none else some (cd.mro.contains v)) = _
  rw [h2]
  rfl
structure Excs (K : Frag) (mg : Str → Option Value) : Prop where
  fe : mg "FallError" = some (.ref (xc K 13)) ∧ CatchC K (xc K 13)
  all : ∀ i, i < 13 → ExcAt K mg (xc K 13) (xn i) (xc K i)
  nd : ∀ i j, i < 14 → j < 14 → xc K i = xc K j → i = j
section
variable {K : Frag} {mg : Str → Option Value}
theorem Excs.hit (x : Excs K mg) {i : Nat} (hi : i < 13) : mroIn K (xc K i) (.ref (xc K 13)) = some true := by
  rw [(x.all i hi).sub]; simp
end
section
variable {X : Cx}
end
end L2

namespace L2
open PySem PySem.Spec PyProof.Rows
/-! ### exceptions, wrapped -/
section
variable {X : Cx} {K : PySem.W.Frag} {mg : Str → Option Value} {x n y : Str} {C : Addr} {e : Expr} {te : TE} {np cpos pos hp px py spos : Pos} {E : XK} {i j : Nat}
end
/-! ### texts -/
section
variable {X : Cx}
/-! ### equal tuples -/
def flatU : V → Bool
  | .int _ => true
  | .str _ => true
  | .bl _ => true
  | _ => false
end
end L2

namespace My
open PySem L2
/-! ### what a spoiled row is refused with -/
def DueOk (b : Nat) (rs : List Int) (due : Nat) : Prop := (due = 16 ∧ ∃ d ∈ rs, d < 0 ∨ (b : Int) ≤ d) ∨ (due = 32 ∧ (∀ d ∈ rs, 0 ≤ d ∧ d < (b : Int)) ∧ (rs.length = 0 ∨ 1001 < rs.length ∨ (1 < rs.length ∧ rs[0]? = some 0))) ∨
  (due = 0 ∧ (∀ d ∈ rs, 0 ≤ d ∧ d < (b : Int)) ∧ ¬ (rs.length = 0 ∨ 1001 < rs.length ∨ (1 < rs.length ∧ rs[0]? = some 0)))
theorem DueOk.row {b : Nat} {xs : List Int} {due : Nat} (h : DueOk b xs due) (a : ∀ d ∈ xs, 0 ≤ d ∧ d < (b : Int)) (q : xs.length = 0 ∨ 1001 < xs.length ∨ (1 < xs.length ∧ xs[0]? = some 0)) : due = 32 := by
  rcases h with ⟨_, d, hd, hq⟩ | ⟨e, _⟩ | ⟨_, _, h⟩
  · have := a d hd; omega
  · exact e
  · exact absurd q h
theorem DueOk.none {b : Nat} {xs : List Int} {due : Nat} (h : DueOk b xs due) (a : ∀ d ∈ xs, 0 ≤ d ∧ d < (b : Int)) (q : ¬ (xs.length = 0 ∨ 1001 < xs.length ∨ (1 < xs.length ∧ xs[0]? = some 0))) : due = 0 := by
  rcases h with ⟨_, d, hd, hq⟩ | ⟨_, _, h⟩ | ⟨e, _⟩
  · have := a d hd; omega
  · exact absurd h q
  · exact e
end My
namespace L2
open PySem PySem.Spec PyProof.Rows
/-! ### comprehensions over a range -/
def LCR (lo : Int) (n : Nat) (te : TE) (σ : St) (H1 : Hp) (Q : VK) : Prop := ∀ D, H1 D = none → ∃ W : Nat → Nat → Hp → Prop, (∃ m, W 0 m (upd H1 D (.lst []))) ∧ ∀ i m H2, W i m H2 →
    ((Itr lo n).stop i H2 ∧ Q (.ref D) H2) ∨ ((Itr lo n).go i H2 ∧ ∀ x H', (Itr lo n).yld i H2 x H' → te (some x :: σ) H' fun y H3 => ∃ ys, H3 D = some (.lst ys) ∧ ys.length < sizeLine ∧ ∃ m', m' < m ∧ W (i + 1) m' (upd H3 D (.lst (ys ++ [y]))))
theorem rd_lcR1 (ta : TA) (te : TE) (σ : St) (H : Hp) (Q : VK) : tLC (iRng1 ta) te σ H Q = ta σ H fun vs H1 => asI1 vs fun j => -(2 ^ 62) ≤ j ∧ j < 2 ^ 62 ∧ LCR 0 j.toNat te σ H1 Q := rfl
theorem rd_lcR2 (ta : TA) (te : TE) (σ : St) (H : Hp) (Q : VK) : tLC (iRng2 ta) te σ H Q = ta σ H fun vs H1 => asI2 vs fun i j => (-(2 ^ 62) ≤ i ∧ i < 2 ^ 62 ∧ -(2 ^ 62) ≤ j ∧ j < 2 ^ 62) ∧ LCR i (j - i).toNat te σ H1 Q := rfl
theorem LCR.at {lo : Int} {n : Nat} {te : TE} {σ : St} {H : Hp} {Q : VK} (hlen : n < sizeLine) (Pv : Addr → Nat → List V → Hp → Prop) (h0 : ∀ D, H D = none → Pv D 0 [] (upd H D (.lst [])))
    (hs : ∀ (D : Addr) (i : Nat) (ys : List V) (H2 : Hp) (R : VK), i < n → H D = none → H2 D = some (.lst ys) → ys.length = i → Pv D i ys H2 → Same H H2 → (∀ y H3, H3 D = some (.lst ys) → Same H H3 → Pv D (i + 1) (ys ++ [y]) (upd H3 D (.lst (ys ++ [y]))) → R y H3) → te (some (.int (lo + i)) :: σ) H2 R)
    (hd : ∀ D ys H2, H D = none → H2 D = some (.lst ys) → ys.length = n → Pv D n ys H2 → Same H H2 → Q (.ref D) H2) : LCR lo n te σ H Q := by
  intro D hD
  refine ⟨fun i m H2 => m = n - i ∧ i ≤ n ∧ ∃ ys, ys.length = i ∧ H2 D = some (.lst ys) ∧ Pv D i ys H2 ∧ Same H H2, ⟨n, by simp, Nat.zero_le _, [], rfl, upd_same, h0 D hD, Same.new hD⟩, ?_⟩
  rintro i m H2 ⟨rfl, hi, ys, hys, hD2, hP, hsm⟩
  by_cases hlt : i < n
  · refine .inr ⟨hlt, fun x H' hy => ?_⟩
    obtain ⟨rfl, rfl⟩ := hy
    refine hs D i ys _ _ hlt hD hD2 hys hP hsm fun y H3 hD3 h3 hP3 => ⟨ys, hD3, by omega, n - (i + 1), by omega, rfl, hlt, ys ++ [y], by simp [hys], upd_same, hP3, fun b o e => ?_⟩
    rw [upd_ne (ne_of_none e hD)]
    exact h3 _ _ e
  · obtain rfl : i = n := by omega
    exact .inl ⟨Nat.le_refl _, hd D ys H2 hD hD2 hys hP hsm⟩
/-- each element a value of the number -/
theorem LCR.map {lo : Int} {n : Nat} {te : TE} {σ : St} {H : Hp} {Q : VK} (hlen : n < sizeLine) (f : Nat → V)
    (hs : ∀ (i : Nat) (H2 : Hp) (R : VK), i < n → Same H H2 → (∀ H3, Same H2 H3 → R (f i) H3) → te (some (.int (lo + i)) :: σ) H2 R)
    (hd : ∀ D H2, H D = none → H2 D = some (.lst ((List.range n).map f)) → Same H H2 → Q (.ref D) H2) : LCR lo n te σ H Q := by
  refine LCR.at hlen (fun _ i ys _ => ys = (List.range i).map f) (fun _ _ => rfl) (fun D i ys H2 R hi hD hD2 hl hP hsm hR => hs i H2 R hi hsm fun H3 h3 => hR _ _ (h3 _ _ hD2) (hsm.trans h3) ?_) fun D ys H2 hD hD2 _ hP hsm => hd D H2 hD (by rw [hD2, hP]) hsm
  rw [hP, List.range_succ, List.map_append]; rfl
end L2

namespace L2
open PySem PySem.Spec PyProof.Rows
section
variable {X : Cx} {pins : List (Addr × Obj)} {σ : St} {H H' : Hp} {s s' : Shared} {h' : Heap}
/-! ### several untracked records of ours have turned; an object that stands there is tracked from now on -/
theorem Inv.turnedL {t' : Nat} {ch : List Addr} (I : Inv X pins σ H s) (k : ∀ b o, b ∉ ch → s.heap.get? b = some o → h'.get? b = some o) (hf : ∀ b ∈ ch, FpOk X pins H b) : Inv X pins σ H { s with heap := h', toks := t' } := by
  have nit : ∀ b u, H b = some u → b ∉ ch := fun b u e z => by rw [(hf b z).1] at e; cases e
  refine I.step (g' := s.gens) (d' := s.drawn) (ch := ch) (fun b hb => ?_) (fun b o _ _ hc e _ => k b o hc e) (fun b o _ _ hc e _ => ⟨o.slots, k b o hc e⟩) (fun _ _ _ _ n => n)
    (fun b o hc e => ⟨o, k b o hc e⟩) (fun _ _ e => e) (fun _ _ _ e => e) (fun b ps e => ⟨#[], by rw [e]; simp⟩) (fun m hm => ?_) (fun b u e => ?_) I.bare
  · obtain ⟨_, f1, _, f3, f4, f5⟩ := hf b hb
    exact ⟨f3, f1, f4, f5⟩
  · obtain ⟨o, es, ep, ho, r⟩ := hm
    exact ⟨o, es, ep, k _ o (fun z => (hf _ z).2.1 rfl) ho, r⟩
  · refine (I.hok b u e).stay (fun c v hc q => k c v ?_ q) (fun _ q => q) fun _ _ q => q
    rcases hc with z | z
    · rw [z]; exact nit b u e
    · exact nit c _ z
theorem Inv.track {a : Addr} {u : HO} (I : Inv X pins σ H s) (hn : H a = none) (h0 : X.s₀.heap.get? a = none) (hL : a ≠ X.env.locals) (hc : ∀ x c, X.env.cells.lookup x = some c → c ≠ a) (hp : ∀ p ∈ X.pn ++ pins, p.1 ≠ a) (new : ObjOk X.prog X.w (upd H a u) s.heap a u) :
    Inv X pins σ (upd H a u) s := by
  refine ⟨I.ok, I.os, I.bare, ⟨I.base.keep, I.base.slot, fun b ob q n hx => ?_, I.base.there, fun b xs q => ?_, fun b ob u q => ?_, fun b ps q => ?_⟩, I.loc, I.cell, ?_, fun y c' q => ?_, fun p hq => ?_, fun b v q => ?_, I.len⟩
  · rw [upd_ne (fun z => by rw [z, h0] at q; cases q)]; exact I.base.free b ob q n hx
  · have := I.base.tups b xs q
    rw [upd_ne (ne_of_none this hn)]; exact this
  · have := I.base.frzs b ob u q
    rw [upd_ne (ne_of_none this hn)]; exact this
  · obtain ⟨more, this⟩ := I.base.tbls b ps q
    exact ⟨more, by rw [upd_ne (ne_of_none this hn)]; exact this⟩
  · rw [upd_ne hL.symm]; exact I.free
  · rw [upd_ne (hc y c' q)]; exact I.freeC y c' q
  · obtain ⟨a1, a2, a3⟩ := I.pin p hq
    exact ⟨a1, by rw [upd_ne (hp p hq)]; exact a2, a3⟩
  · by_cases hb : b = a
    · subst hb
      rw [upd_same] at q; cases q
      exact new
    · rw [upd_ne hb] at q
      exact (I.hok b v q).stay (fun _ _ _ r => r) (fun c r => by rw [upd_ne (ne_of_none r hn)]; exact r) fun c xs r => by rw [upd_ne (ne_of_none r hn)]; exact r
/-- a place that was not there at all at s -/
theorem Inv.newer (I : Inv X pins σ H s) {a : Addr} (h : s.heap.objs.size ≤ a) : X.s₀.heap.get? a = none ∧ a ≠ X.env.locals ∧ (∀ x c, X.env.cells.lookup x = some c → c ≠ a) ∧ ∀ p ∈ X.pn ++ pins, p.1 ≠ a := by
  refine ⟨Heap.get?_none_of_le (Nat.le_trans I.sz h), Nat.ne_of_gt (Nat.lt_of_lt_of_le I.lt h), fun x c e z => ?_, fun p hp z => ?_⟩
  · obtain ⟨v, q⟩ := I.cell x c e
    exact absurd (Nat.lt_of_lt_of_le q.lt (by rw [z]; exact h)) (Nat.lt_irrefl _)
  · exact absurd (Nat.lt_of_lt_of_le (Heap.lt_size (I.pin p hp).1) (by rw [z]; exact h)) (Nat.lt_irrefl _)
end
/-! ### for i, x in enumerate(l) -/
def Ite (K : PySem.W.Frag) (a : Addr) : It :=
  ⟨fun i H => ∃ xs x, SqL K H a xs ∧ xs[i]? = some x, fun i H v H' => ∃ p x, H p = none ∧ v = .ref p ∧ H' = upd H p (.tup [.int (i : Int), x]) ∧ ∀ xs, SqL K H a xs → xs[i]? = some x, fun i H => ∃ xs, SqL K H a xs ∧ xs.length ≤ i⟩
theorem turn_enum {P : Program} {w : World} {K : PySem.W.Frag} {es : List Expr} {k : Nat} {tp : Pos} (a e it : Addr) (hei : e ≠ it) : Turn P w K (.Tuple es k tp) (Ite K a) [e, it] e (fun i h => (∃ old, IsEnum h e it (i : Int) old) ∧ h.IsListIter it a i) where
  mem := by simp
  obj := fun i h st b hb => by
    obtain ⟨⟨old, he⟩, o, hit, c, d⟩ := st
    rcases List.mem_cons.mp hb with z | z
    · subst z; exact ⟨_, he, fun v z => by cases z⟩
    · rw [List.mem_singleton.mp z]; exact ⟨o, hit, fun v z => by rw [d] at z; cases z⟩
  keep := fun i h h' st k => by
    obtain ⟨⟨old, he⟩, hit⟩ := st
    exact ⟨⟨old, k e (by simp) _ he⟩, hit.at fun o x => k it (by simp) o x⟩
  item := by
    intro X hP hw hK hc i pins s σ H E I hf st hg
    subst hP hw hK
    obtain ⟨xs, x, hq, hx⟩ := hg
    obtain ⟨⟨old, he⟩, hit⟩ := st
    obtain ⟨its, rv, p, hz⟩ := I.list hq
    obtain ⟨u, hu, ru⟩ := rv.get hx
    have hie := hei.symm
    refine wpAny_pyNext_enum_item he hit p.isList (x := u) (by simpa using hu) hei fun h1 ho hit1 hT hsz hk => ?_
    have helt : e < s.heap.objs.size := Heap.lt_size he
    have hilt : it < s.heap.objs.size := by obtain ⟨_, y, _⟩ := hit; exact Heap.lt_size y
    refine ⟨_, rfl, wpAny_letOwnedTupleGo_enum ho fun h2 he2 hs2 => ?_⟩
    have hT2 : h2.get? s.heap.objs.size = some { cls := .type "tuple", data := .seq #[.int i s.toks, u] } := (hs2.2 _ (Nat.ne_of_gt helt)).trans hT
    have I1 : Inv X pins σ H { s with heap := h2, toks := s.toks + 1 } := I.turnedL (ch := [e, it]) (fun b o hb q => by
      have hbe : b ≠ e := fun z => hb (by simp [z])
      have hbi : b ≠ it := fun z => hb (by simp [z])
      exact hs2.extBut b o hbe (hk b o hbe hbi q)) hf
    obtain ⟨n0, n1, n2, n3⟩ := I.newer (a := s.heap.objs.size) (Nat.le_refl _)
    have hfr : H s.heap.objs.size = none := I.hok.fresh (Nat.le_refl _)
    have I2 : Inv X pins σ (upd H s.heap.objs.size (.tup [.int (i : Int), x])) { s with heap := h2, toks := s.toks + 1 } :=
      I1.track hfr n0 n1 n2 n3 ⟨by show 2 ≤ sizeLine; decide, [.int i s.toks, u], .cons ⟨_, rfl⟩ (.cons ru .nil), _, hT2, rfl, _, rfl⟩
    refine ⟨.ref s.heap.objs.size, _, I2, rfl, ⟨_, x, hfr, rfl, rfl, fun ys hy => by rw [I.list_inj hy hq]; exact hx⟩, ⟨⟨_, by
      have e0 : ((i + 1 : Nat) : Int) = (i : Int) + 1 := by push_cast; rfl
      rw [e0]; exact he2⟩, hit1.extBut hs2.extBut hei.symm⟩, fun b hb => ?_⟩
    rw [upd_ne (fun z => ?_)]
    · exact (hf b hb).1
    · rw [z] at hb
      rcases List.mem_cons.mp hb with q | q
      · exact absurd q (Nat.ne_of_gt helt)
      · exact absurd (List.mem_singleton.mp q) (Nat.ne_of_gt hilt)
  done := by
    intro X hP hw hK hc i pins s σ H E I hf st hg
    subst hP hw hK
    obtain ⟨xs, hq, hx⟩ := hg
    obtain ⟨⟨old, he⟩, hit⟩ := st
    obtain ⟨its, rv, p, hz⟩ := I.list hq
    have hl := rv.length
    obtain ⟨f0, f1, f2, f3, f4, f5⟩ := hf it (by simp)
    exact wpAny_pyNext_enum_end (I.ok.hd hc) he hit p.isList (by simp; omega) fun h' eb => ⟨rfl, I.turned (t' := s.toks) (fun b o hb q => eb b o hb q) f0 f1 f3 f4 f5⟩
  self := fun _ _ _ _ _ st h => by
    obtain ⟨⟨old, he⟩, _⟩ := st
    exact wpAny_pyIter_enum he h
section
variable {X : Cx} {es : List Expr} {k : Nat} {tp : Pos}
theorem bt_enumerate : bootBuiltins "enumerate" = some (.type "enumerate") := by rfl
def iEnum (K : PySem.W.Frag) (ta : TA) : TI := fun σ H R => ta σ H fun vs H1 => ∃ a, vs = [.ref a] ∧ (∃ xs, SqL K H1 a xs) ∧ R (Ite K a) H1
theorem qi_enum {a : Expr} {ta : TA} {p pos : Pos} (hg : Gl X "enumerate") (hm : X.mg "enumerate" = none) (ha : QA X [a] ta) (hs : starEach [a] X.env = [(false, eval a X.env)] := by rfl) : QI X (.Tuple es k tp) (.Call (.Name "enumerate" p) [a] [] pos) (iEnum X.K ta) := by
  constructor
  intro pins s σ H R I h
  refine Call_ (ld_blt I hg hm bt_enumerate (PyProof.Rows.callWith_type1 (thn (ha.h pos pins s σ H _ I h) fun us s1 ⟨vs, H1, I1, r1, q1⟩ => ?_) hs rfl))
  obtain ⟨a, e, ⟨xs, hq⟩, q⟩ := q1
  subst e
  cases r1 with
  | cons r rr =>
    cases rr
    cases r
    obtain ⟨its, rv, pl, hz⟩ := I1.list hq
    refine call_enumerate_list pl.isList fun h' he hit hsz hk => ?_
    refine wpAny_pyIter_enum he ?_
    have I2 : Inv X pins σ H1 { s1 with heap := h' } := I1.kept (t' := s1.toks) hk
    refine ⟨s1.heap.objs.size + 1, [s1.heap.objs.size + 1, s1.heap.objs.size], _, _, H1, rfl, I2, turn_enum a _ _ (Nat.ne_of_gt (Nat.lt_succ_self _)), ⟨⟨.none, he⟩, hit⟩, fun b hb => ?_, q⟩
    have hb' : s1.heap.objs.size ≤ b := by
      rcases List.mem_cons.mp hb with z | z
      · rw [z]; exact Nat.le_succ _
      · rw [List.mem_singleton.mp z]; exact Nat.le_refl _
    exact I1.fpOk hb' (I1.hok.fresh hb')
end
def ForE (K : PySem.W.Frag) (a : Addr) (g : TG) (tb : TS) (D : Ends) (σ : St) (H : Hp) : Prop := (∃ xs, SqL K H a xs) ∧ ∃ W : Nat → Nat → St → Hp → Prop, (∃ m, W 0 m σ H) ∧ ∀ i m σ H, W i m σ H →
  ((Ite K a).stop i H ∧ D.nx σ H) ∨ ((Ite K a).go i H ∧ ∃ N : St → Hp → Prop, (∀ σ' H', N σ' H' → ∃ m', m' < m ∧ W (i + 1) m' σ' H') ∧ ∀ x H', (Ite K a).yld i H x H' → g x σ H' fun σ2 H2 => tb { D with nx := N, ct := N, bk := D.nx } σ2 H2)
def asR1 (vs : List V) (R : Addr → Prop) : Prop := ∃ a, vs = [.ref a] ∧ R a
theorem asR1_eq (a : Addr) (R : Addr → Prop) : asR1 [.ref a] R = R a := by
  refine propext ⟨fun ⟨_, e, q⟩ => ?_, fun q => ⟨a, rfl, q⟩⟩
  cases e; exact q
theorem rd_forE (K : PySem.W.Frag) (ta : TA) (g : TG) (tb : TS) (D : Ends) (σ : St) (H : Hp) : tFor (iEnum K ta) g tb D σ H = ta σ H (fun vs H1 => asR1 vs fun a => ForE K a g tb D σ H1) := rfl
/-- the list as it was at the start; the pair at p is new at each turn -/
theorem ForE.go {K : PySem.W.Frag} {a : Addr} {xs : List V} {g : TG} {tb : TS} {D : Ends} {σ : St} {H : Hp} (hS : SqL K H a xs) (Pv : Nat → St → Hp → Prop) (h0 : Pv 0 σ H) (hl : ∀ i σ H2, i ≤ xs.length → Pv i σ H2 → ∀ o, H a = some o → H2 a = some o)
    (hs : ∀ (i : Nat) (x : V) (p : Addr) (σ : St) (H : Hp) (N : St → Hp → Prop), xs[i]? = some x → Pv i σ H → H p = none → (∀ σ' H', Pv (i + 1) σ' H' → N σ' H') → g (.ref p) σ (upd H p (.tup [.int (i : Int), x])) fun σ2 H2 => tb { D with nx := N, ct := N, bk := D.nx } σ2 H2) (hd : ∀ σ H, Pv xs.length σ H → D.nx σ H) : ForE K a g tb D σ H := by
  refine ⟨⟨xs, hS⟩, fun i m σ H2 => m = xs.length - i ∧ i ≤ xs.length ∧ Pv i σ H2, ⟨xs.length, by simp, Nat.zero_le _, h0⟩, ?_⟩
  rintro i m σ H2 ⟨rfl, hi, p⟩
  have q := seqL_at (hl i σ H2 hi p) hS
  by_cases hlt : i < xs.length
  · refine .inr ⟨⟨xs, xs[i], q, by simp [hlt]⟩, Pv (i + 1), fun σ' H' p' => ⟨xs.length - (i + 1), by omega, rfl, hlt, p'⟩, fun v H' y => ?_⟩
    obtain ⟨t, x, ht, rfl, rfl, y⟩ := y
    exact hs i x t σ H2 _ (y xs q) p ht fun _ _ z => z
  · have e : i = xs.length := by omega
    subst e
    exact .inl ⟨⟨xs, q, Nat.le_refl _⟩, hd σ H2 p⟩
/-! targets (a, b) -/
section
variable {X : Cx} {K : PySem.W.Frag}
structure QGs (X : Cx) (ts : List Expr) (t : TGs) : Prop where h : PGs X ts t
theorem qgs_nil : QGs X [] gNil := ⟨pgs_nil⟩
theorem qgs_cons {e : Expr} {es : List Expr} {t : TG} {u : TGs} (h1 : QG X e t) (h2 : QGs X es u) (hs : (assignEach (e :: es) X.env).map (·.2) = assign e X.env :: (assignEach es X.env).map (·.2) := by rfl) : QGs X (e :: es) (gCons t u) := ⟨pgs_cons h1.h h2.h hs⟩
theorem qg_tup {es : List Expr} {k : Nat} {t : TGs} {n : Nat} {pos : Pos} (hK : X.K = K) (hc : X.calm = true) (h : QGs X es t) (hn : (assignEach es X.env).length = n := by rfl) (hst : (assignEach es X.env).findIdx? (·.1) = none := by rfl) : QG X (.Tuple es k pos) (gTup K n t) := by
  subst hK; exact ⟨pg_tup hc h.h hn hst⟩
theorem rd_gtup (n : Nat) (t : TGs) (p : Addr) (σ : St) (H : Hp) (Q : St → Hp → Prop) : gTup K n t (.ref p) σ H Q = ∃ xs, SqT K H p xs ∧ xs.length = n ∧ t xs σ H Q := by
  refine propext ⟨fun ⟨_, xs, e, h⟩ => ?_, fun ⟨xs, h⟩ => ⟨p, xs, rfl, h⟩⟩
  cases e; exact ⟨xs, h⟩
theorem rd_gnil (σ : St) (H : Hp) (Q : St → Hp → Prop) : gNil [] σ H Q = Q σ H := propext ⟨fun h => h.2, fun h => ⟨rfl, h⟩⟩
theorem rd_gcons (t : TG) (u : TGs) (v : V) (r : List V) (σ : St) (H : Hp) (Q : St → Hp → Prop) : gCons t u (v :: r) σ H Q = t v σ H fun σ' H' => u r σ' H' Q := by
  refine propext ⟨fun ⟨_, _, e, h⟩ => ?_, fun h => ⟨v, r, rfl, h⟩⟩
  cases e; exact h
/-! x op= e, o[i] op= e -/
theorem rd_aug0 (te : TE) (ti : TIp) (v : V) (r : St) (D : Ends) (H : Hp) : tAug 0 te ti D (some v :: r) H = te (some v :: r) H fun y H1 => ti v y H1 fun z H2 => D.nx (some z :: r) H2 := by
  unfold tAug
  refine propext ⟨fun ⟨_, e, h⟩ => ?_, fun h => ⟨v, rfl, h⟩⟩
  cases e; exact h
theorem rd_aug (i : Nat) (te : TE) (ti : TIp) (D : Ends) (σ : St) (H : Hp) : tAug i te ti D σ H = tVar i σ H fun v _ => te σ H fun y H1 => ti v y H1 fun z H2 => D.nx (σ.set i (some z)) H2 := rfl
theorem rd_ipI (f : Int → Int → Int) (i j : Int) (H : Hp) (Q : VK) : ipI f (.int i) (.int j) H Q = Q (.int (f i j)) H := by
  refine propext ⟨fun ⟨_, _, e1, e2, q⟩ => ?_, fun q => ⟨i, j, rfl, rfl, q⟩⟩
  cases e1; cases e2; exact q
theorem qs_augS {o i e : Expr} {to ti te : TE} {tget : V → V → Hp → VK → Prop} {tip : TIp} {tset : TSet} {op : Operator} {tpos pos : Pos} (ho : QE X o to) (hi : QE X i ti) (hg : PGet X tget) (he : QE X e te) (hp : PIp X op tip) (hs : PSet X tset)
    (ha : ∀ ov iv new, augStore i ov iv new = (do holding [new, ov, iv] (setItem ov iv new); release [new, ov, iv] []; pure .next) := by intros; rfl) : QS X (.AugAssign (.Subscript o i tpos) op e pos) (tAugS to ti te tget tip tset) := ⟨ps_augS ho.h hi.h hg he.h hp hs ha⟩
theorem rd_augS (to ti te : TE) (tget : V → V → Hp → VK → Prop) (tip : TIp) (tset : TSet) (D : Ends) (σ : St) (H : Hp) : tAugS to ti te tget tip tset D σ H = to σ H fun o H1 => ti σ H1 fun i H2 => tget o i H2 fun x H3 => te σ H3 fun y H4 => tip x y H4 fun z H5 => tset o i z H5 fun H6 => D.nx σ H6 := rfl
end
end L2

namespace L2
open PySem PySem.Spec PyProof.Rows
section
variable {X : Cx} {K : PySem.W.Frag}
/-! ### l[i] op= e -/
theorem get_list : PGet X (rIxL X.K) := by
  intro pins s σ H x y v u Q I rx ry h
  obtain ⟨p, xs, i, z, rfl, rfl, hq, he, q⟩ := h
  cases rx
  obtain ⟨t, rfl⟩ := ry
  obtain ⟨its, r, pl, hz⟩ := I.list hq
  obtain ⟨j, h1, h2, h3, h4, h5⟩ := atI_get he
  obtain ⟨w, ew, rw'⟩ := r.get h2
  have hl := r.length
  have hn := line63
  have fin : EP X pins σ Q w s := ⟨z, H, I, rw', q⟩
  by_cases h0 : 0 ≤ i
  · have hj : i.toNat = j := by
      rw [seqIndex_of h0 h5] at h1
      exact Option.some.inj h1
    exact wpAny_getItem_list pl.isList h0 (by omega) (by rw [hj]; simpa using ew) fin
  · have hj : (i + (its.toArray.size : Int)).toNat = j := by
      rw [seqIndex_neg (by omega) h4] at h1
      rw [List.size_toArray, ← hl]
      exact Option.some.inj h1
    exact wpAny_getItem_list_neg pl.isList (by omega) (by rw [List.size_toArray] <;> omega) (by omega) (by rw [hj]; simpa using ew) fin
theorem get_listK (hK : X.K = K) : PGet X (rIxL K) := by subst hK; exact get_list
theorem rIxL_eq (p : Addr) (i : Int) (H : Hp) (Q : VK) : rIxL K (.ref p) (.int i) H Q = ∃ xs, SqL K H p xs ∧ ∃ v, atI xs i = some v ∧ Q v H := by
  refine propext ⟨fun h => ?_, fun h => ?_⟩
  · obtain ⟨_, xs, _, v, e1, e2, h1, h2, q⟩ := h
    cases e1; cases e2
    exact ⟨xs, h1, v, h2, q⟩
  · obtain ⟨xs, h1, v, h2, q⟩ := h
    exact ⟨p, xs, i, v, rfl, rfl, h1, h2, q⟩
/-! ### x is None -/
def rIsN : R2 := fun x y H Q => y = .non ∧ Q (.bl (decide (x = .non))) H
def rNotN : R2 := fun x y H Q => y = .non ∧ Q (.bl (!decide (x = .non))) H
theorem rIsN_eq (x : V) (H : Hp) (Q : VK) : rIsN x .non H Q = Q (.bl (decide (x = .non))) H := propext ⟨fun h => h.2, fun h => ⟨rfl, h⟩⟩
theorem rNotN_eq (x : V) (H : Hp) (Q : VK) : rNotN x .non H Q = Q (.bl (!decide (x = .non))) H := propext ⟨fun h => h.2, fun h => ⟨rfl, h⟩⟩
theorem isNon_int (i : Int) : decide (V.int i = V.non) = false := by simp
theorem isNon_non : decide (V.non = V.non) = true := by simp
theorem isNon_ref (a : Addr) : decide (V.ref a = V.non) = false := by simp
/-! ### a slice of a list or a tuple -/
def rSlQ (K : PySem.W.Frag) : V → Option Int → Option Int → Hp → VK → Prop := fun x lo hi H Q => rSlL K x lo hi H Q ∨ rSlT K x lo hi H Q
theorem sl_sqQ (hK : X.K = K) : SlR X (rSlQ K) := by
  subst hK
  intro pins s σ H x v vl vu lo hi sl Q I rx hs pl pu h
  rcases h with h | h
  · exact sl_list pins s σ H x v vl vu lo hi sl Q I rx hs pl pu h
  · exact sl_tup pins s σ H x v vl vu lo hi sl Q I rx hs pl pu h
theorem rSlQ_of {a : Addr} {xs : List V} {lo hi : Option Int} {H : Hp} {Q : VK} (hS : SqS K H a xs) (hp : ¬ (HT.sIx xs.length 0 lo = 0 ∧ HT.sIx xs.length xs.length hi = xs.length))
    (q : ∀ p H', H p = none → SqS K H' p (cutV xs lo hi) → Same H H' → Q (.ref p) H') : rSlQ K (.ref a) lo hi H Q := by
  rcases hS with h | h
  · exact .inl ⟨a, xs, rfl, h, fun p hp => q p _ hp (.inl (SqL.of upd_same)) (Same.new hp)⟩
  · exact .inr ⟨a, xs, rfl, h, hp, fun p hp => q p _ hp (.inr (SqT.of upd_same)) (Same.new hp)⟩
/-! ### xs.count(i) of a list of ints -/
def rCount : V → List V → Hp → VK → Prop := fun x vs H Q => ∃ (l : Addr) (ns : List Int) (i : Int), x = .ref l ∧ vs = [.int i] ∧ H l = some (.lst (ns.map V.int)) ∧ Q (.int (ns.count i : Nat)) H
theorem rCount_eq (l : Addr) (i : Int) (H : Hp) (Q : VK) : rCount (.ref l) [.int i] H Q = ∃ ns : List Int, H l = some (.lst (ns.map V.int)) ∧ Q (.int (ns.count i : Nat)) H := by
  refine propext ⟨fun ⟨_, ns, _, e1, e2, h⟩ => ?_, fun ⟨ns, h⟩ => ⟨l, ns, i, rfl, rfl, h⟩⟩
  cases e1; cases e2; exact ⟨ns, h⟩
end
/-! ### [elt for x in iter if test] -/
section
variable {prog : Program} {w : World} {A : Around} {s : Shared} {R : Result → Shared → Prop}
end
def tLCF (wi : TI) (tt : TT) (te : TE) : TE := fun σ H Q => wi σ H fun J H1 => ∀ D, H1 D = none → ∃ W : Nat → Nat → Hp → Prop, (∃ m, W 0 m (upd H1 D (.lst []))) ∧ ∀ i m H2, W i m H2 →
  (J.stop i H2 ∧ Q (.ref D) H2) ∨ (J.go i H2 ∧ ∀ x H', J.yld i H2 x H' → tt (some x :: σ) H' fun b H3 => if b = true then te (some x :: σ) H3 fun y H4 => ∃ ys, H4 D = some (.lst ys) ∧ ys.length < sizeLine ∧ ∃ m', m' < m ∧ W (i + 1) m' (upd H4 D (.lst (ys ++ [y]))) else ∃ m', m' < m ∧ W (i + 1) m' H3)
section
variable {X : Cx} {scope : Scope} {x : Str} {elt iter tst : Expr} {wi : TI} {te : TE} {tt : TT} {px pos : Pos}
end
def LFS (K : PySem.W.Frag) (a : Addr) (tt : TT) (te : TE) (σ : St) (H1 : Hp) (Q : VK) : Prop :=
  ((∃ xs, SqL K H1 a xs) ∧ ∀ D, H1 D = none → ∃ W : Nat → Nat → Hp → Prop, (∃ m, W 0 m (upd H1 D (.lst []))) ∧ ∀ i m H2, W i m H2 →
    ((Itl K a).stop i H2 ∧ Q (.ref D) H2) ∨ ((Itl K a).go i H2 ∧ ∀ x H', (Itl K a).yld i H2 x H' → tt (some x :: σ) H' fun b H3 => if b = true then te (some x :: σ) H3 fun y H4 => ∃ ys, H4 D = some (.lst ys) ∧ ys.length < sizeLine ∧ ∃ m', m' < m ∧ W (i + 1) m' (upd H4 D (.lst (ys ++ [y]))) else ∃ m', m' < m ∧ W (i + 1) m' H3)) ∨
  ((∃ xs, SqT K H1 a xs) ∧ ∀ D, H1 D = none → ∃ W : Nat → Nat → Hp → Prop, (∃ m, W 0 m (upd H1 D (.lst []))) ∧ ∀ i m H2, W i m H2 →
    ((Itt K a).stop i H2 ∧ Q (.ref D) H2) ∨ ((Itt K a).go i H2 ∧ ∀ x H', (Itt K a).yld i H2 x H' → tt (some x :: σ) H' fun b H3 => if b = true then te (some x :: σ) H3 fun y H4 => ∃ ys, H4 D = some (.lst ys) ∧ ys.length < sizeLine ∧ ∃ m', m' < m ∧ W (i + 1) m' (upd H4 D (.lst (ys ++ [y]))) else ∃ m', m' < m ∧ W (i + 1) m' H3))
theorem rd_lfS (K : PySem.W.Frag) (tl te : TE) (tt : TT) (σ : St) (H : Hp) (Q : VK) : tLCF (iSq K tl) tt te σ H Q = tl σ H fun x H1 => asR x fun a => LFS K a tt te σ H1 Q := rfl
/-- each element: a test, a value of the item -/
theorem LFS.filterMap {K : PySem.W.Frag} {a : Addr} {tt : TT} {te : TE} {σ : St} {H : Hp} {Q : VK} {xs : List V} (hS : SqS K H a xs) (hlen : xs.length < sizeLine) (f : V → Option V)
    (hs : ∀ (i : Nat) (x : V) (H2 : Hp) (R : Bool → Hp → Prop), xs[i]? = some x → Same H H2 → (R (f x).isSome H2) → tt (some x :: σ) H2 R)
    (he : ∀ (i : Nat) (x y : V) (H2 : Hp) (R : VK), xs[i]? = some x → f x = some y → Same H H2 → (∀ H3, Same H2 H3 → R y H3) → te (some x :: σ) H2 R)
    (hd : ∀ D H2, H D = none → H2 D = some (.lst (xs.filterMap f)) → Same H H2 → Q (.ref D) H2) : LFS K a tt te σ H Q := by
  have W : ∀ (D : Addr), H D = none → ∀ (J : It), (∀ i H2, Same H H2 → xs.length ≤ i → J.stop i H2) → (∀ i x H2, Same H H2 → xs[i]? = some x → J.go i H2) → (∀ i H2 x H', Same H H2 → J.yld i H2 x H' → H' = H2 ∧ xs[i]? = some x) →
      ∃ W : Nat → Nat → Hp → Prop, (∃ m, W 0 m (upd H D (.lst []))) ∧ ∀ i m H2, W i m H2 →
        (J.stop i H2 ∧ Q (.ref D) H2) ∨ (J.go i H2 ∧ ∀ x H', J.yld i H2 x H' → tt (some x :: σ) H' fun b H3 => if b = true then te (some x :: σ) H3 fun y H4 => ∃ ys, H4 D = some (.lst ys) ∧ ys.length < sizeLine ∧ ∃ m', m' < m ∧ W (i + 1) m' (upd H4 D (.lst (ys ++ [y]))) else ∃ m', m' < m ∧ W (i + 1) m' H3) := by
    intro D hD J j1 j2 j3
    refine ⟨fun i m H2 => m = xs.length - i ∧ i ≤ xs.length ∧ H2 D = some (.lst ((xs.take i).filterMap f)) ∧ Same H H2, ⟨xs.length, by simp, Nat.zero_le _, by simp [upd_same], Same.new hD⟩, ?_⟩
    rintro i m H2 ⟨rfl, hi, hD2, hsm⟩
    by_cases hlt : i < xs.length
    · refine .inr ⟨j2 i xs[i] H2 hsm (by simp [hlt]), fun x H' hy => ?_⟩
      obtain ⟨rfl, hx⟩ := j3 i H2 x H' hsm hy
      have htk : (xs.take (i + 1)).filterMap f = (xs.take i).filterMap f ++ (f x).toList := by
        rw [List.take_add_one, hx, List.filterMap_append]
        cases hf : f x <;> simp [hf]
      refine hs i x _ _ hx hsm ?_
      cases hf : f x with
      | none =>
        rw [hf] at htk
        exact ⟨xs.length - (i + 1), by omega, rfl, hlt, by rw [htk]; simpa using hD2, hsm⟩
      | some y =>
        rw [hf] at htk
        have hle : ((xs.take i).filterMap f).length < sizeLine := Nat.lt_of_le_of_lt (Nat.le_trans (List.length_filterMap_le _ _) (by rw [List.length_take]; omega)) hlen
        refine he i x y _ _ hx hf hsm fun H3 h3 => ⟨_, h3 _ _ hD2, hle, xs.length - (i + 1), by omega, rfl, hlt, by rw [upd_same, htk]; rfl, fun b o e => ?_⟩
        rw [upd_ne (ne_of_none e hD)]
        exact h3 _ _ (hsm _ _ e)
    · have e : i = xs.length := by omega
      subst e
      exact .inl ⟨j1 _ _ hsm (Nat.le_refl _), hd D H2 hD (by rw [hD2, List.take_of_length_le (Nat.le_refl _)]) hsm⟩
  rcases hS with h | h
  · refine .inl ⟨⟨xs, h⟩, fun D hD => W D hD (Itl K a) (fun i H2 hs hi => ⟨xs, hs.seq h, hi⟩) (fun i x H2 hs hx => ⟨xs, x, hs.seq h, hx⟩) fun i H2 x H' hs hy => ⟨hy.1, hy.2 xs (hs.seq h)⟩⟩
  · refine .inr ⟨⟨xs, h⟩, fun D hD => W D hD (Itt K a) (fun i H2 hs hi => ⟨xs, hs.seqT h, hi⟩) (fun i x H2 hs hx => ⟨xs, x, hs.seqT h, hx⟩) fun i H2 x H' hs hy => ⟨hy.1, hy.2 xs (hs.seqT h)⟩⟩
end L2
namespace L2
open PySem PySem.Spec PyProof.Rows
section
variable {X : Cx} {K : PySem.W.Frag}
/-! ### xs == [], xs != [] -/
def rNeL (K : PySem.W.Frag) : R2 := fun x y H Q => ∃ a b xs ys, x = .ref a ∧ y = .ref b ∧ SqL K H a xs ∧ SqL K H b ys ∧ ys = [] ∧ Q (.bl (!decide (xs = []))) H
theorem rNeL_eq (K : PySem.W.Frag) (a b : Addr) (H : Hp) (Q : VK) : rNeL K (.ref a) (.ref b) H Q = ∃ xs, SqL K H a xs ∧ SqL K H b [] ∧ Q (.bl (!decide (xs = []))) H := by
  refine propext ⟨fun ⟨_, _, xs, ys, e1, e2, h1, h2, e3, q⟩ => ?_, fun ⟨xs, h1, h2, q⟩ => ⟨a, b, xs, [], rfl, rfl, h1, h2, rfl, q⟩⟩
  cases e1; cases e2; subst e3; exact ⟨xs, h1, h2, q⟩
end
end L2

namespace L2
open PySem PySem.Spec PyProof.Rows
section
variable {X : Cx} {scope : Scope} {x y : Str} {px py pos spos : Pos} {elt iter tst : Expr} {wi : TI} {te : TE} {tt : TT} {i : Nat}
end
end L2

namespace My
open PySem L2
/-! ### the table of sums -/
/-- what stands at s less each worth, where it is a number -/
def cand (ws : List Nat) (T : List (Option Nat)) (s : Nat) : List Nat := ws.filterMap fun w => if 0 < w ∧ w ≤ s then T.getD (s - w) none else none
def nxt (ws : List Nat) (T : List (Option Nat)) (s : Nat) : Option Nat := (cand ws T s).min?.map (· + 1)
def tabl (ws : List Nat) : Nat → List (Option Nat)
  | 0 => [some 0]
  | n + 1 => tabl ws n ++ [nxt ws (tabl ws n) (n + 1)]
theorem tabl_len (ws : List Nat) : ∀ n, (tabl ws n).length = n + 1
  | 0 => rfl
  | n + 1 => by rw [tabl, List.length_append, tabl_len ws n]; rfl
theorem tabl_pre (ws : List Nat) {n m i : Nat} (h : i ≤ n) (hm : n ≤ m) : (tabl ws m)[i]? = (tabl ws n)[i]? := by
  induction m with
  | zero => have : n = 0 := by omega
            subst this; rfl
  | succ m ih =>
    by_cases e : n = m + 1
    · subst e; rfl
    · rw [tabl, List.getElem?_append_left (by rw [tabl_len]; omega)]
      exact ih (by omega)
theorem tabl_at (ws : List Nat) {n s : Nat} (h0 : 0 < s) (h : s ≤ n) : (tabl ws n)[s]? = some (nxt ws (tabl ws (s - 1)) s) := by
  rw [tabl_pre ws (n := s) (Nat.le_refl _) h]
  obtain ⟨r, rfl⟩ : ∃ r, s = r + 1 := ⟨s - 1, by omega⟩
  rw [tabl, List.getElem?_append_right (by rw [tabl_len]; omega), tabl_len]
  simp
theorem cand_pre (ws : List Nat) {n s : Nat} (h0 : 0 < s) (h : s ≤ n) : cand ws (tabl ws n) s = cand ws (tabl ws (s - 1)) s := by
  unfold cand
  congr 1
  funext w
  split
  · rename_i hw
    rw [List.getD_eq_getElem?_getD, List.getD_eq_getElem?_getD, tabl_pre ws (n := s - 1) (m := n) (by omega) (by omega)]
  · rfl
end My

namespace L2
open PySem PySem.Spec PyProof.Rows
section
variable {X : Cx} {K : PySem.W.Frag}
/-! ### max(xs) of a list of ints -/
def rMax1 (K : PySem.W.Frag) : List V → Hp → VK → Prop := fun xs H Q => ∃ (p : Addr) (ns : List Int), xs = [.ref p] ∧ SqL K H p (ns.map V.int) ∧ ns ≠ [] ∧ ∀ M, M ∈ ns → (∀ a, a ∈ ns → a ≤ M) → Q (.int M) H
theorem rMax1_eq (K : PySem.W.Frag) (p : Addr) (H : Hp) (Q : VK) : rMax1 K [.ref p] H Q = ∃ ns : List Int, SqL K H p (ns.map V.int) ∧ ns ≠ [] ∧ ∀ M, M ∈ ns → (∀ a, a ∈ ns → a ≤ M) → Q (.int M) H := by
  refine propext ⟨fun ⟨_, ns, e, h⟩ => ?_, fun ⟨ns, h⟩ => ⟨p, ns, rfl, h⟩⟩
  cases e; exact ⟨ns, h⟩
end
/-- a loop over what stood there at H0 -/
theorem ForS.base {K : PySem.W.Frag} {a : Addr} {xs : List V} {g : TG} {tb : TS} {D : Ends} {σ : St} {H H0 : Hp} (hS : SqS K H0 a xs) (Pv : Nat → St → Hp → Prop) (h0 : Pv 0 σ H) (hl : ∀ i σ H2, i ≤ xs.length → Pv i σ H2 → Same H0 H2)
    (hs : ∀ (i : Nat) (x : V) (σ : St) (H : Hp) (N : St → Hp → Prop), xs[i]? = some x → Pv i σ H → (∀ σ' H', Pv (i + 1) σ' H' → N σ' H') → g x σ H fun σ2 H2 => tb { D with nx := N, ct := N, bk := D.nx } σ2 H2) (hd : ∀ σ H, Pv xs.length σ H → D.nx σ H) : ForS K a g tb D σ H := by
  have hH := hl 0 σ H (Nat.zero_le _) h0
  rcases hS with h | h
  · exact .inl ⟨⟨xs, hH.seq h⟩, for_list Pv h0 (fun i σ H2 hi p => (hl i σ H2 hi p).seq h) (fun i x σ H hi p => hs i x σ H _ hi p fun _ _ q => q) hd⟩
  · exact .inr ⟨⟨xs, hH.seqT h⟩, for_tup Pv h0 (fun i σ H2 hi p => (hl i σ H2 hi p).seqT h) (fun i x σ H hi p => hs i x σ H _ hi p fun _ _ q => q) hd⟩
end L2
namespace My
open PySem L2
/-! ### tallies -/
def tab (n : Nat) (F : Nat → Nat) : List Nat := (List.range n).map F
theorem tab_len (n : Nat) (F : Nat → Nat) : (tab n F).length = n := by unfold tab; rw [List.length_map, List.length_range]
theorem tab_get {n : Nat} {F : Nat → Nat} {i : Nat} (h : i < n) : (tab n F)[i]? = some (F i) := by unfold tab; rw [List.getElem?_map, List.getElem?_range h]; rfl
theorem tab_getD {n : Nat} {F : Nat → Nat} (i : Nat) : (tab n F).getD i 0 = if i < n then F i else 0 := by
  rw [List.getD_eq_getElem?_getD]
  by_cases h : i < n
  · rw [tab_get h, if_pos h]; rfl
  · rw [if_neg h, List.getElem?_eq_none (by rw [tab_len]; omega)]; rfl
theorem tab_congr {n : Nat} {F G : Nat → Nat} (h : ∀ s, s < n → F s = G s) : tab n F = tab n G := by
  unfold tab
  exact List.map_congr_left fun s hs => h s (List.mem_range.mp hs)
theorem tabV_congr {n : Nat} {F G : Nat → Nat} (h : ∀ s, s < n → F s = G s) : some (HO.lst ((tab n F).map vI)) = some (HO.lst ((tab n G).map vI)) := by rw [tab_congr h]
theorem tab_set {n : Nat} {F : Nat → Nat} {j v : Nat} : (tab n F).set j v = tab n (fun s => if s = j then v else F s) := by
  refine List.ext_getElem? fun i => ?_
  rw [List.getElem?_set]
  by_cases hi : i < n
  · rw [tab_get hi, tab_get hi, tab_len]
    by_cases e : j = i
    · subst e; rw [if_pos rfl, if_pos hi, if_pos rfl]
    · rw [if_neg e, if_neg (fun z => e z.symm)]
  · rw [List.getElem?_eq_none (l := tab n F) (by rw [tab_len]; omega), List.getElem?_eq_none (by rw [tab_len]; omega), tab_len]
    split
    · rw [if_neg (by omega)]
    · rfl
theorem tab_zero (n : Nat) : (List.replicate n [V.int 0]).flatten = (tab n (fun _ => 0)).map vI := by
  unfold tab
  rw [List.map_map]
  induction n with
  | zero => rfl
  | succ n ih => rw [List.replicate_succ, List.flatten_cons, ih, List.range_succ_eq_map, List.map_cons, List.map_map]; rfl
theorem tab_at {n : Nat} {F : Nat → Nat} {i : Nat} (h : i < n) : atI ((tab n F).map vI) (i : Int) = some (vI (F i)) := atI_nat (by rw [List.getElem?_map, tab_get h]; rfl)
/-- one figure put behind -/
def sh (F : Nat → Nat) (ws : List Nat) (s : Nat) : Nat := (ws.map fun w => if w ≤ s then F (s - w) else 0).sum
def accT (T ws : List Nat) (i s : Nat) : Nat := (ws.map fun w => if w ≤ s ∧ s - w < i then T.getD (s - w) 0 else 0).sum
def innT (us : List Nat) (i m s : Nat) : Nat := (us.map fun w => if s = i + w then m else 0).sum
theorem sum_map_congr {l : List Nat} {f g : Nat → Nat} (h : ∀ x ∈ l, f x = g x) : (l.map f).sum = (l.map g).sum := by rw [List.map_congr_left h]
theorem sum_map_add (l : List Nat) (f g : Nat → Nat) : (l.map fun x => f x + g x).sum = (l.map f).sum + (l.map g).sum := by
  induction l with
  | nil => rfl
  | cons x r ih => simp only [List.map_cons, List.sum_cons, ih]; omega
theorem sum_map_zero (l : List Nat) : (l.map fun _ => 0).sum = 0 := by
  induction l with
  | nil => rfl
  | cons x r ih => simp only [List.map_cons, List.sum_cons, ih]
theorem accT_zero (T ws : List Nat) (s : Nat) : accT T ws 0 s = 0 := by
  unfold accT
  rw [sum_map_congr (g := fun _ => 0) (fun w _ => if_neg (by omega)), sum_map_zero]
theorem accT_succ (T ws : List Nat) (i s : Nat) : accT T ws (i + 1) s = accT T ws i s + innT ws i (T.getD i 0) s := by
  unfold accT innT
  rw [← sum_map_add]
  refine sum_map_congr fun w _ => ?_
  by_cases h1 : s = i + w
  · subst h1
    rw [if_pos (by omega), if_neg (by omega), if_pos rfl, show i + w - w = i by omega]; omega
  · rw [if_neg h1]
    by_cases h2 : w ≤ s ∧ s - w < i
    · rw [if_pos h2, if_pos (by omega)]; rfl
    · rw [if_neg h2, if_neg (by omega)]
theorem innT_zero (us : List Nat) (i s : Nat) : innT us i 0 s = 0 := by
  unfold innT
  rw [sum_map_congr (g := fun _ => 0) (fun w _ => by split <;> rfl), sum_map_zero]
theorem innT_nil (i m s : Nat) : innT [] i m s = 0 := rfl
theorem innT_take {ws : List Nat} {j w : Nat} (h : ws[j]? = some w) (i m s : Nat) : innT (ws.take (j + 1)) i m s = innT (ws.take j) i m s + if s = i + w then m else 0 := by
  unfold innT
  rw [List.take_add_one, h, List.map_append, List.sum_append]
  simp
theorem accT_all (T ws : List Nat) (s : Nat) : accT T ws T.length s = sh (fun i => T.getD i 0) ws s := by
  unfold accT sh
  refine sum_map_congr fun w _ => ?_
  by_cases h : w ≤ s
  · by_cases h2 : s - w < T.length
    · rw [if_pos ⟨h, h2⟩, if_pos h]
    · rw [if_neg (by omega), if_pos h]
      show 0 = T.getD (s - w) 0
      rw [List.getD_eq_getElem?_getD, List.getElem?_eq_none (by omega)]; rfl
  · rw [if_neg (by omega), if_neg h]
theorem sh_congr {F G : Nat → Nat} {ws : List Nat} {s : Nat} (h : ∀ i, i ≤ s → F i = G i) : sh F ws s = sh G ws s := by
  unfold sh
  refine sum_map_congr fun w _ => ?_
  by_cases h1 : w ≤ s
  · rw [if_pos h1, if_pos h1, h _ (by omega)]
  · rw [if_neg h1, if_neg h1]
/-- how many of a length have each sum: fs may stand first, ws behind -/
def spF (fs ws : List Nat) : Nat → Nat → Nat
  | 0 => fun s => fs.count s
  | k + 1 => sh (spF fs ws k) ws
theorem sh_big {F : Nat → Nat} {ws : List Nat} {n s : Nat} (hw : ∀ x ∈ ws, x ≤ 50) (hF : ∀ i, n ≤ i → F i = 0) (h : n + 50 ≤ s) : sh F ws s = 0 := by
  unfold sh
  rw [sum_map_congr (g := fun _ => 0) (fun w hm => ?_), sum_map_zero]
  have := hw w hm
  rw [if_pos (by omega), hF _ (by omega)]
theorem spF_big {fs ws : List Nat} (hf : ∀ x ∈ fs, x ≤ 50) (hw : ∀ x ∈ ws, x ≤ 50) : ∀ k s, 50 * k + 51 ≤ s → spF fs ws k s = 0
  | 0, s, h => by
    show fs.count s = 0
    rw [List.count_eq_zero]
    intro z
    have := hf s z
    omega
  | k + 1, s, h => by
    show sh (spF fs ws k) ws s = 0
    exact sh_big (n := 50 * k + 51) hw (fun i hi => spF_big hf hw k i hi) (by omega)
theorem sh_one (fs : List Nat) (s : Nat) : sh (fun i => [1].getD i 0) fs s = fs.count s := by
  unfold sh
  induction fs with
  | nil => rfl
  | cons x r ih =>
    rw [List.map_cons, List.sum_cons, ih, List.count_cons]
    by_cases e : x = s
    · subst e
      rw [if_pos (Nat.le_refl _), Nat.sub_self, beq_self_eq_true, if_pos rfl]
      simp; omega
    · rw [show (x == s) = false by simpa using e]
      by_cases h : x ≤ s
      · obtain ⟨d, hd⟩ : ∃ d, s - x = d + 1 := ⟨s - x - 1, by omega⟩
        rw [if_pos h, hd]; simp
      · rw [if_neg h]; simp
/-- what spread hands back -/
def spd (ws : List Nat) (len : Nat) : Nat → Nat := spF (if len = 1 then ws else ws.tail) ws (len - 1)
end My
namespace My
open PySem L2
/-! ### sums over tallies -/
def tot (n : Nat) (F : Nat → Nat) : Nat := (tab n F).sum
theorem tot_succ (n : Nat) (F : Nat → Nat) : tot (n + 1) F = tot n F + F n := by unfold tot tab; rw [List.range_succ, List.map_append, List.sum_append]; simp
theorem tot_congr {n : Nat} {F G : Nat → Nat} (h : ∀ s, s < n → F s = G s) : tot n F = tot n G := by unfold tot; rw [tab_congr h]
theorem tot_add (n : Nat) (F G : Nat → Nat) : tot n (fun s => F s + G s) = tot n F + tot n G := by
  induction n with
  | zero => rfl
  | succ n ih => rw [tot_succ, tot_succ, tot_succ, ih]; omega
theorem tot_const0 (n : Nat) : tot n (fun _ => 0) = 0 := by
  induction n with
  | zero => rfl
  | succ n ih => rw [tot_succ, ih]
theorem sum_pos_of {l : List Nat} {f : Nat → Nat} {x : Nat} (h : x ∈ l) (hp : 0 < f x) : 0 < (l.map f).sum := by
  induction l with
  | nil => cases h
  | cons y r ih =>
    rw [List.map_cons, List.sum_cons]
    rcases List.mem_cons.mp h with e | e
    · rw [← e]; omega
    · have := ih e; omega
/-- the least and the greatest that have any -/
structure LowOf (F : Nat → Nat) (m : Nat) : Prop where
  pos : 0 < F m
  below : ∀ s, s < m → F s = 0
structure HighOf (F : Nat → Nat) (m : Nat) : Prop where
  pos : 0 < F m
  above : ∀ s, m < s → F s = 0
theorem LowOf.sh {F : Nat → Nat} {ws : List Nat} {m w : Nat} (h : LowOf F m) (hm : w ∈ ws) (hl : ∀ x ∈ ws, w ≤ x) : LowOf (My.sh F ws) (m + w) where
  pos := by
    unfold My.sh
    refine sum_pos_of hm ?_
    rw [if_pos (by omega), show m + w - w = m by omega]; exact h.pos
  below := fun s hs => by
    unfold My.sh
    rw [sum_map_congr (g := fun _ => 0) (fun x hx => ?_), sum_map_zero]
    have := hl x hx
    by_cases e : x ≤ s
    · rw [if_pos e, h.below _ (by omega)]
    · rw [if_neg e]
theorem HighOf.sh {F : Nat → Nat} {ws : List Nat} {m w : Nat} (h : HighOf F m) (hm : w ∈ ws) (hl : ∀ x ∈ ws, x ≤ w) : HighOf (My.sh F ws) (m + w) where
  pos := by
    unfold My.sh
    refine sum_pos_of hm ?_
    rw [if_pos (by omega), show m + w - w = m by omega]; exact h.pos
  above := fun s hs => by
    unfold My.sh
    rw [sum_map_congr (g := fun _ => 0) (fun x hx => ?_), sum_map_zero]
    have := hl x hx
    rw [if_pos (by omega), h.above _ (by omega)]
end My

namespace My
open PySem L2
/-! ### counting numbers by what they fall to -/
def one (c : Prop) [Decidable c] : Nat := if c then 1 else 0
end My

namespace L2
open PySem PySem.Spec PyProof.Rows
theorem rd_neN (j : Int) (H : Hp) (Q : VK) : rNe .non (.int j) H Q = Q (.bl true) H := by
  have e : decide (V.non = V.int j) = false := by simp
  refine propext ⟨fun ⟨_, q⟩ => by rw [e] at q; exact q, fun q => ⟨rfl, by rw [e]; exact q⟩⟩
end L2
namespace My
open PySem L2
/-! ### the table as a function -/
def tb (ws : List Nat) (s : Nat) : Option Nat := (tabl ws s).getD s none
theorem tabl_tb (ws : List Nat) {n s : Nat} (h : s ≤ n) : (tabl ws n)[s]? = some (tb ws s) := by
  rw [tabl_pre ws (Nat.le_refl s) h]
  unfold tb
  rw [List.getD_eq_getElem?_getD]
  have : s < (tabl ws s).length := by rw [tabl_len]; omega
  rw [List.getElem?_eq_getElem this]; rfl
theorem tabl_getD (ws : List Nat) {n s : Nat} (h : s ≤ n) : (tabl ws n).getD s none = tb ws s := by rw [List.getD_eq_getElem?_getD, tabl_tb ws h]; rfl
theorem tb_0 (ws : List Nat) : tb ws 0 = some 0 := rfl
theorem tb_nxt (ws : List Nat) {s : Nat} (h : 0 < s) : tb ws s = (cand ws (tabl ws s) s).min?.map (· + 1) := by
  have h1 := tabl_at ws h (Nat.le_refl s)
  have h2 := tabl_tb ws (Nat.le_refl s)
  rw [h1] at h2
  rw [cand_pre ws h (Nat.le_refl s)]
  exact (Option.some.inj h2).symm
theorem mem_cand {ws : List Nat} {s m : Nat} : m ∈ cand ws (tabl ws s) s ↔ ∃ w ∈ ws, 0 < w ∧ w ≤ s ∧ tb ws (s - w) = some m := by
  unfold cand
  rw [List.mem_filterMap]
  constructor
  · rintro ⟨w, hw, e⟩
    by_cases c : 0 < w ∧ w ≤ s
    · rw [if_pos c, tabl_getD ws (by omega)] at e; exact ⟨w, hw, c.1, c.2, e⟩
    · rw [if_neg c] at e; cases e
  · rintro ⟨w, hw, c1, c2, e⟩
    exact ⟨w, hw, by rw [if_pos ⟨c1, c2⟩, tabl_getD ws (by omega)]; exact e⟩
theorem tb_some {ws : List Nat} {s m : Nat} (h : 0 < s) (e : tb ws s = some m) : ∃ w ∈ ws, 0 < w ∧ w ≤ s ∧ 0 < m ∧ tb ws (s - w) = some (m - 1) := by
  rw [tb_nxt ws h] at e
  obtain ⟨a, ha, rfl⟩ := Option.map_eq_some_iff.mp e
  obtain ⟨w, h1, h2, h3, h4⟩ := mem_cand.mp (List.min?_mem ha)
  exact ⟨w, h1, h2, h3, by omega, h4⟩
theorem tb_le {ws : List Nat} {s w m' : Nat} (hw : w ∈ ws) (h0 : 0 < w) (h1 : w ≤ s) (e : tb ws (s - w) = some m') : ∃ m, tb ws s = some m ∧ m ≤ m' + 1 := by
  have hm := mem_cand.mpr ⟨w, hw, h0, h1, e⟩
  rw [tb_nxt ws (by omega)]
  cases q : (cand ws (tabl ws s) s).min? with
  | none => rw [List.min?_eq_none_iff.mp q] at hm; cases hm
  | some a =>
    have := (List.min?_eq_some_iff.mp q).2 m' hm
    exact ⟨a + 1, rfl, by omega⟩
theorem tb_small {ws : List Nat} : ∀ {s m : Nat}, tb ws s = some m → m ≤ s := by
  intro s
  induction s using Nat.strongRecOn with
  | _ s ih =>
    intro m e
    by_cases h : 0 < s
    · obtain ⟨w, _, h2, h3, h4, h5⟩ := tb_some h e
      have := ih (s - w) (by omega) h5
      omega
    · have : s = 0 := by omega
      subst this
      rw [tb_0] at e; cases e; omega
/-- any figures -/
theorem tb_any {ws : List Nat} : ∀ (ds : List Nat), (∀ d ∈ ds, d < ws.length) → ∃ m, tb ws (ds.map (wt ws)).sum = some m ∧ m ≤ ds.length
  | [], _ => ⟨0, tb_0 ws, Nat.le_refl _⟩
  | d :: r, h => by
    obtain ⟨m', h1, h2⟩ := tb_any r fun x hx => h x (List.mem_cons_of_mem _ hx)
    rw [List.map_cons, List.sum_cons, List.length_cons]
    have hd := h d List.mem_cons_self
    have hmem : wt ws d ∈ ws := List.mem_of_getElem? (wt_get hd)
    by_cases hz : 0 < wt ws d
    · obtain ⟨m, h3, h4⟩ := tb_le (s := wt ws d + (r.map (wt ws)).sum) hmem hz (by omega) (by rw [Nat.add_sub_cancel_left]; exact h1)
      exact ⟨m, h3, by omega⟩
    · rw [show wt ws d + (r.map (wt ws)).sum = (r.map (wt ws)).sum by omega]
      exact ⟨m', h1, by omega⟩
/-! ### the least figures behind -/
structure Nx (ws : List Nat) (left f : Nat) : Prop where
  lt : f < ws.length
  ok : wt ws f ≤ left
  tb : ∃ m, tb ws left = some (m + 1) ∧ My.tb ws (left - wt ws f) = some m
  least : ∀ d, d < f → wt ws d ≤ left → ∀ m, My.tb ws left = some (m + 1) → My.tb ws (left - wt ws d) ≠ some m
inductive Grd (ws : List Nat) : Nat → List Nat → Prop
  | nil : Grd ws 0 []
  | cons {left f : Nat} {r : List Nat} : 0 < left → Nx ws left f → Grd ws (left - wt ws f) r → Grd ws left (f :: r)
theorem Nx.pos {ws : List Nat} {left f : Nat} (h : Nx ws left f) : 0 < wt ws f := by
  obtain ⟨m, h1, h2⟩ := h.tb
  apply Nat.pos_of_ne_zero
  intro z
  rw [z, Nat.sub_zero, h1] at h2
  have := Option.some.inj h2
  omega
theorem Grd.len {ws : List Nat} {left : Nat} {fs : List Nat} (h : Grd ws left fs) : tb ws left = some fs.length := by
  induction h with
  | nil => rfl
  | cons h0 n g ih =>
    obtain ⟨m, h1, h2⟩ := n.tb
    rw [ih] at h2
    rw [h1, List.length_cons, Option.some.inj h2]
theorem Grd.lt {ws : List Nat} {left : Nat} {fs : List Nat} (h : Grd ws left fs) : ∀ d ∈ fs, d < ws.length := by
  induction h with
  | nil => intro d hd; cases hd
  | cons h0 n g ih =>
    intro d hd
    rcases List.mem_cons.mp hd with e | e
    · rw [e]; exact n.lt
    · exact ih d e
theorem Grd.sum {ws : List Nat} {left : Nat} {fs : List Nat} (h : Grd ws left fs) : (fs.map (wt ws)).sum = left := by
  induction h with
  | nil => rfl
  | cons h0 n g ih =>
    rw [List.map_cons, List.sum_cons, ih]
    have := n.ok
    omega
theorem num_cons (b d : Nat) (r : List Nat) : num b (d :: r) = d * b ^ r.length + num b r := by
  unfold num
  rw [List.reverse_cons, val_append, List.length_reverse]
  omega
theorem num_lt {b : Nat} (hb : 2 ≤ b) {r : List Nat} (h : ∀ d ∈ r, d < b) : num b r < b ^ r.length := by
  have := val_lt hb r.reverse fun d hd => h d (List.mem_reverse.mp hd)
  rw [List.length_reverse] at this
  exact this
theorem lead_lt {b d e : Nat} (hb : 2 ≤ b) {r q : List Nat} (hr : ∀ x ∈ r, x < b) (hl : r.length = q.length) (h : d < e) : num b (d :: r) < num b (e :: q) := by
  rw [num_cons, num_cons, hl]
  have h1 := num_lt hb hr
  rw [hl] at h1
  have h2 : (d + 1) * b ^ q.length ≤ e * b ^ q.length := Nat.mul_le_mul_right _ h
  rw [Nat.add_mul] at h2
  omega
/-- no row of as many figures with that sum is less -/
theorem Grd.least {ws : List Nat} (hb : 2 ≤ ws.length) {left : Nat} {fs : List Nat} (h : Grd ws left fs) : ∀ ys : List Nat, (∀ d ∈ ys, d < ws.length) → ys.length = fs.length → (ys.map (wt ws)).sum = left → num ws.length fs ≤ num ws.length ys := by
  induction h with
  | nil =>
    intro ys _ hl _
    rw [List.length_eq_zero_iff.mp hl]
    exact Nat.le_refl _
  | @cons left f r h0 n g ih =>
    intro ys hy hl hs
    cases ys with
    | nil => simp at hl
    | cons y q =>
      rw [List.map_cons, List.sum_cons] at hs
      simp only [List.length_cons, Nat.add_right_cancel_iff] at hl
      have hq : ∀ d ∈ q, d < ws.length := fun d hd => hy d (List.mem_cons_of_mem _ hd)
      have hyl := hy y List.mem_cons_self
      rcases Nat.lt_trichotomy f y with z | z | z
      · exact Nat.le_of_lt (lead_lt hb g.lt hl.symm z)
      · subst z
        have := ih q hq hl (by omega)
        rw [num_cons, num_cons, hl]
        omega
      · exfalso
        obtain ⟨m, h1, h2⟩ := n.tb
        have hlen := g.len
        rw [h2] at hlen
        have em : m = r.length := Option.some.inj hlen
        obtain ⟨m2, h3, h4⟩ := tb_any q hq
        have e2 : (q.map (wt ws)).sum = left - wt ws y := by omega
        rw [e2] at h3
        have h5 : m2 ≠ m := fun e => n.least y z (by omega) m h1 (by rw [h3, e])
        by_cases hz : 0 < wt ws y
        · obtain ⟨m3, h6, h7⟩ := tb_le (s := left) (List.mem_of_getElem? (wt_get hyl)) hz (by omega) h3
          rw [h1] at h6
          have := Option.some.inj h6
          omega
        · rw [show left - wt ws y = left by omega, h1] at h3
          have := Option.some.inj h3
          omega
/-- the best first figure -/
structure Fst (ws : List Nat) (t f : Nat) : Prop where
  one : 1 ≤ f
  lt : f < ws.length
  ok : wt ws f ≤ t
  ex : ∃ m, tb ws (t - wt ws f) = some m ∧ ∀ d, 1 ≤ d → d < ws.length → wt ws d ≤ t → ∀ m', tb ws (t - wt ws d) = some m' → m ≤ m' ∧ (d < f → m < m')
def NoFst (ws : List Nat) (t : Nat) : Prop := ∀ d, 1 ≤ d → d < ws.length → wt ws d ≤ t → tb ws (t - wt ws d) = none
/-- what least_of hands back -/
inductive Lst (ws : List Nat) (t : Nat) : Option Nat → Prop
  | zero : wt ws 0 = t → Lst ws t (some 0)
  | none : wt ws 0 ≠ t → NoFst ws t → Lst ws t none
  | some {f : Nat} {fs : List Nat} : wt ws 0 ≠ t → Fst ws t f → Grd ws (t - wt ws f) fs → Lst ws t (some (num ws.length (f :: fs)))
theorem row_of {b : Nat} (hb : 2 ≤ b) (x : Nat) : ∃ d r, (fl b x).reverse = d :: r ∧ num b (d :: r) = x ∧ (∀ y ∈ d :: r, y < b) ∧ (x = 0 → d = 0 ∧ r = []) ∧ (0 < x → 1 ≤ d) := by
  have hne : (fl b x).reverse ≠ [] := fun z => fl_ne (by simpa using z)
  obtain ⟨d, r, e⟩ : ∃ d r, (fl b x).reverse = d :: r := by
    cases q : (fl b x).reverse with
    | nil => exact absurd q hne
    | cons d r => exact ⟨d, r, rfl⟩
  have hnum : num b (d :: r) = x := by
    unfold num
    rw [← e, List.reverse_reverse, val_fl hb]
  refine ⟨d, r, e, hnum, fun y hy => ?_, fun hx => ?_, fun hx => ?_⟩
  · rw [← e] at hy
    exact fl_mem hb x y (List.mem_reverse.mp hy)
  · subst hx
    rw [fl_lt (by omega)] at e
    simp at e
    exact ⟨e.1.symm, e.2⟩
  · apply Nat.pos_of_ne_zero
    intro z
    subst z
    have h1 := fl_top hb x
    rw [show (fl b x).getLast? = some 0 by rw [← List.head?_reverse, e]; rfl] at h1
    rcases h1 with h1 | h1
    · have : (fl b x).reverse.length = 1 := by rw [List.length_reverse]; exact h1
      rw [e] at this
      have hr : r = [] := List.length_eq_zero_iff.mp (by simpa using this)
      subst hr
      rw [num_cons] at hnum
      simp [num, val] at hnum
      omega
    · exact h1 rfl
theorem fall_row {ws : List Nat} {x d : Nat} {r : List Nat} (e : (fl ws.length x).reverse = d :: r) : fall ws x = wt ws d + (r.map (wt ws)).sum := by
  unfold fall
  rw [← sum_rev, ← List.map_reverse, e, List.map_cons, List.sum_cons]
theorem fall_num {ws : List Nat} (hb : 2 ≤ ws.length) {d : Nat} {r : List Nat} (hd : 1 ≤ d) (h : ∀ y ∈ d :: r, y < ws.length) : fall ws (num ws.length (d :: r)) = wt ws d + (r.map (wt ws)).sum := by
  refine fall_row ?_
  unfold num
  rw [fl_val hb _ (by simp) (fun y hy => h y (List.mem_reverse.mp hy)) (.inr ?_), List.reverse_reverse]
  rw [List.getLast?_reverse]
  intro z
  have : d = 0 := by simpa using z
  omega
theorem Lst.fall {ws : List Nat} (hb : 2 ≤ ws.length) {t n : Nat} (h : Lst ws t (.some n)) : fall ws n = t := by
  cases h with
  | zero h => rw [fall_lt (by omega)]; exact h
  | @some f fs h0 h1 h2 =>
    rw [fall_num hb h1.one (fun y hy => by
      rcases List.mem_cons.mp hy with e | e
      · rw [e]; exact h1.lt
      · exact h2.lt y e), h2.sum]
    have := h1.ok
    omega
theorem Lst.least {ws : List Nat} (hb : 2 ≤ ws.length) {t : Nat} {o : Option Nat} (h : Lst ws t o) {x : Nat} (hx : My.fall ws x = t) : ∃ n, o = .some n ∧ n ≤ x := by
  obtain ⟨d, r, e, hn, hm, hz, hp⟩ := row_of hb x
  have hf := fall_row e
  have hr : ∀ y ∈ r, y < ws.length := fun y hy => hm y (List.mem_cons_of_mem _ hy)
  have hdl := hm d List.mem_cons_self
  cases h with
  | zero h => exact ⟨0, rfl, Nat.zero_le _⟩
  | none h0 h1 =>
    exfalso
    by_cases x0 : x = 0
    · obtain ⟨rfl, rfl⟩ := hz x0
      simp at hf
      omega
    · obtain ⟨m, hm1, _⟩ := tb_any r hr
      rw [show (r.map (wt ws)).sum = t - wt ws d by omega, h1 d (hp (by omega)) hdl (by omega)] at hm1
      cases hm1
  | @some f fs h0 h1 h2 =>
    refine ⟨_, rfl, ?_⟩
    by_cases x0 : x = 0
    · exfalso
      obtain ⟨rfl, rfl⟩ := hz x0
      simp at hf
      omega
    · have hd1 := hp (by omega)
      obtain ⟨m', hm1, hm2⟩ := tb_any r hr
      rw [show (r.map (wt ws)).sum = t - wt ws d by omega] at hm1
      obtain ⟨m, hm3, hm4⟩ := h1.ex
      obtain ⟨h3, h4⟩ := hm4 d hd1 hdl (by omega) m' hm1
      have hlen := h2.len
      rw [hm3] at hlen
      have em : m = fs.length := Option.some.inj hlen
      have hfl : ∀ y ∈ f :: fs, y < ws.length := fun y hy => by
        rcases List.mem_cons.mp hy with e | e
        · rw [e]; exact h1.lt
        · exact h2.lt y e
      rw [← hn]
      by_cases hl : fs.length < r.length
      · have h5 := num_lt hb hfl
        rw [List.length_cons] at h5
        have h6 : ws.length ^ (fs.length + 1) ≤ ws.length ^ r.length := Nat.pow_le_pow_right (by omega) hl
        have h7 : num ws.length (d :: r) = d * ws.length ^ r.length + num ws.length r := num_cons _ _ _
        have h8 : 1 * ws.length ^ r.length ≤ d * ws.length ^ r.length := Nat.mul_le_mul_right _ hd1
        omega
      · have hl2 : r.length = fs.length := by omega
        rcases Nat.lt_trichotomy f d with z | z | z
        · exact Nat.le_of_lt (lead_lt hb h2.lt hl2.symm z)
        · subst z
          have h9 := h2.least hb r hr hl2 (by omega)
          rw [num_cons, num_cons, hl2]
          omega
        · have := h4 z
          omega
theorem Lst.lt {ws : List Nat} (hb : 2 ≤ ws.length) {t n : Nat} (ht : t ≤ 1000) (h : Lst ws t (.some n)) : n < ws.length ^ 1001 := by
  cases h with
  | zero h => exact Nat.pow_pos (by omega)
  | @some f fs h0 h1 h2 =>
    have hfl : ∀ y ∈ f :: fs, y < ws.length := fun y hy => by
      rcases List.mem_cons.mp hy with e | e
      · rw [e]; exact h1.lt
      · exact h2.lt y e
    have h5 := num_lt hb hfl
    have h6 := tb_small h2.len
    refine Nat.lt_of_lt_of_le h5 (Nat.pow_le_pow_right (by omega) ?_)
    rw [List.length_cons]
    omega
end My

namespace My
open PySem L2
/-! ### the law's own table: -1 for none -/
end My

namespace My
open PySem L2
/-- a dict that tells for each sum the first of x .. 799 that falls to it -/
def FirstD (ws : List Nat) (x : Nat) (kvs : List (Key × V)) : Prop := ∀ s : Nat, (valV kvs (Sum.inl (s : Int)) = none ∧ ∀ y, x ≤ y → y < 800 → fall ws y ≠ s) ∨ ∃ y, valV kvs (Sum.inl (s : Int)) = some (vI y) ∧ x ≤ y ∧ y < 800 ∧ fall ws y = s ∧ ∀ z, x ≤ z → z < y → fall ws z ≠ s
theorem FirstD.step {ws : List Nat} {x : Nat} {kvs : List (Key × V)} (h : FirstD ws (x + 1) kvs) (hx : x < 800) : FirstD ws x (putK kvs (Sum.inl ((fall ws x : Nat) : Int)) (vI x)) := by
  intro s
  rw [valV_put]
  by_cases e : s = fall ws x
  · right
    exact ⟨x, by rw [if_pos (by rw [e])], Nat.le_refl _, hx, e.symm, fun z h1 h2 => by omega⟩
  · have e2 : (Sum.inl (s : Int) : Key) ≠ Sum.inl ((fall ws x : Nat) : Int) := fun z => e (by have := Sum.inl.inj z; omega)
    rw [if_neg e2]
    rcases h s with ⟨h1, h2⟩ | ⟨y, h1, h2, h3, h4, h5⟩
    · refine .inl ⟨h1, fun y hy1 hy2 => ?_⟩
      by_cases ey : y = x
      · subst ey; exact fun z => e z.symm
      · exact h2 y (by omega) hy2
    · refine .inr ⟨y, h1, by omega, h3, h4, fun z hz1 hz2 => ?_⟩
      by_cases ez : z = x
      · subst ez; exact fun q => e q.symm
      · exact h5 z (by omega) hz2
theorem FirstD.lst {ws : List Nat} (hb : 2 ≤ ws.length) {kvs : List (Key × V)} (h : FirstD ws 0 kvs) {t : Nat} {o : Option Nat} (ho : Lst ws t o) :
    (valV kvs (Sum.inl (t : Int)) = none ∧ ∀ n, o = some n → 800 ≤ n) ∨ ∃ y, valV kvs (Sum.inl (t : Int)) = some (vI y) ∧ o = some y := by
  rcases h t with ⟨h1, h2⟩ | ⟨y, h1, h2, h3, h4, h5⟩
  · refine .inl ⟨h1, fun n e => ?_⟩
    subst e
    apply Nat.le_of_not_lt
    intro z
    exact h2 n (Nat.zero_le _) z (ho.fall hb)
  · refine .inr ⟨y, h1, ?_⟩
    obtain ⟨n, rfl, hn⟩ := ho.least hb h4
    by_cases e : n < y
    · exact absurd (ho.fall hb) (h5 n (Nat.zero_le _) e)
    · congr 1; omega
end My

namespace L2
open PySem PySem.Spec PyProof.Rows
section
variable {X : Cx} {K : PySem.W.Frag}
/-! ### t != (a, b) where they are alike -/
def rNeT (K : PySem.W.Frag) : R2 := fun x y H Q => ∃ a b xs, x = .ref a ∧ y = .ref b ∧ SqT K H a xs ∧ SqT K H b xs ∧ xs.all flatU = true ∧ Q (.bl false) H
theorem rNeT_eq (K : PySem.W.Frag) (a b : Addr) (H : Hp) (Q : VK) : rNeT K (.ref a) (.ref b) H Q = ∃ xs, SqT K H a xs ∧ SqT K H b xs ∧ xs.all flatU = true ∧ Q (.bl false) H := by
  refine propext ⟨fun ⟨_, _, xs, e1, e2, h⟩ => ?_, fun ⟨xs, h⟩ => ⟨a, b, xs, rfl, rfl, h⟩⟩
  cases e1; cases e2; exact ⟨xs, h⟩
end
end L2
namespace My
open PySem L2
end My

namespace L2
open PySem PySem.Spec PyProof.Rows
/-! ### classes of the text by name -/
/-- a method as it stands behind the top -/
def MethAt (K : PySem.W.Frag) (c m qual : Str) (st : Stmt) (ps : List Str) : Prop := ∃ f fd, Fun K m qual st f fd ∧ Meth K (exA K c) m f ∧ Binds K fd ps []
def InitAt (K : PySem.W.Frag) (c qual : Str) (st : Stmt) (ps : List Str) : Prop := ∃ f fd, Fun K "__init__" qual st f fd ∧ Mk K (exA K c) f ∧ Binds K fd ps []
/-- a method by its promise -/
def GoodM (P : Program) (w : World) (K : PySem.W.Frag) (mg : Str → Option Value) (base : Heap) (CX : CXT) (k : Nat) (c m : Str) (ps : List Str) (sp : Sp) : Prop :=
  ∃ f fd, FnOk P w K mg base CX k f fd ps sp ∧ Meth K (exA K c) m f ∧ Binds K fd ps []
def GoodI (P : Program) (w : World) (K : PySem.W.Frag) (mg : Str → Option Value) (base : Heap) (CX : CXT) (k : Nat) (c : Str) (ps : List Str) (sp : Sp) : Prop :=
  ∃ f fd, FnOk P w K mg base CX k f fd ps sp ∧ Mk K (exA K c) f ∧ Binds K fd ps []
section
variable {P : Program} {w : World} {K : PySem.W.Frag} {mg : Str → Option Value} {base : Heap} {c m qual : Str} {st : Stmt} {N ps : List Str} {k : Nat} {sp : Sp} {sc : Scope} {bd : List Stmt}
theorem MethAt.goodQ (hsc : defScope st = sc) (hbd : defBody st = bd) (F : MethAt K c m qual st ps) (S : FnScope N ps sc) (len : ∀ vs H Q E, sp vs H Q E → vs.length = ps.length)
    (hbody : ∀ (f : Addr) (cdv : Value) (A : Around) (outer : List Env) (s : Shared) (H : Hp) (vs : List V) (Q : VK) (E : XK), Room k (A.deeper (envOfC qual sc s.heap.objs.size f cdv)) → sp vs H Q E →
      ∃ t, QB (cxOf CX0 P w K mg base N qual sc f cdv A outer s H E).nox bd t ∧ t { nx := fun _ H' => Q .non H', rt := Q } (L2.start N vs) H) : GoodM P w K mg base CX0 (k + 1) c m ps sp := by
  obtain ⟨f, fd, F, hm, hb⟩ := F
  exact ⟨f, fd, F.okQ hsc hbd S len (hbody f), hm, hb⟩
theorem InitAt.goodQ (hsc : defScope st = sc) (hbd : defBody st = bd) (F : InitAt K c qual st ps) (S : FnScope N ps sc) (len : ∀ vs H Q E, sp vs H Q E → vs.length = ps.length)
    (hbody : ∀ (f : Addr) (cdv : Value) (A : Around) (outer : List Env) (s : Shared) (H : Hp) (vs : List V) (Q : VK) (E : XK), Room k (A.deeper (envOfC qual sc s.heap.objs.size f cdv)) → sp vs H Q E →
      ∃ t, QB (cxOf CX0 P w K mg base N qual sc f cdv A outer s H E).nox bd t ∧ t { nx := fun _ H' => Q .non H', rt := Q } (L2.start N vs) H) : GoodI P w K mg base CX0 (k + 1) c ps sp := by
  obtain ⟨f, fd, F, hm, hb⟩ := F
  exact ⟨f, fd, F.okQ hsc hbd S len (hbody f), hm, hb⟩
end
/-! ### the rules, wrapped -/
section
variable {X : Cx} {K : PySem.W.Frag} {o e value : Expr} {es : List Expr} {ta tv td ty tx : TE} {t : TA} {f m c x : Str} {pos pos' apos cpos p : Pos}
theorem qe_dget2 {e2 : Expr} (hu : X.A.units + 1 < cLine) (ho : QE X o td) (he : QE X e ty) (hf : QE X e2 tx) (m : M2 X o "get" apos e e2 cpos := by exact ⟨rfl, rfl, rfl, rfl⟩) : QE X (.Call (.Attribute o "get" apos) [e, e2] [] cpos) (tDGet2 td ty tx) := ⟨pe_dget2 hu ho.h he.h hf.h m⟩
/-! readings -/
theorem rd_fld (K : PySem.W.Frag) (ta : TE) (f : Str) (σ : St) (H : Hp) (Q : VK) : tFld K ta f σ H Q = ta σ H fun x H1 => asR x fun a => ∃ C dx fs, H1 a = some (.ins C dx fs) ∧ Cls K C ∧ NoAttr K C f ∧ ∃ v, fs.lookup f = some v ∧ Q v H1 := by
  unfold tFld asR
  congr; funext x H1
  exact propext ⟨fun ⟨a, C, dx, fs, v, e, h1, h2, h3, h4, q⟩ => ⟨a, e, C, dx, fs, h1, h2, h3, v, h4, q⟩, fun ⟨a, e, C, dx, fs, h1, h2, h3, v, h4, q⟩ => ⟨a, C, dx, fs, v, e, h1, h2, h3, h4, q⟩⟩
theorem rd_sfld (K : PySem.W.Frag) (ta tv : TE) (f : Str) (D : Ends) (σ : St) (H : Hp) : sFld K ta tv f D σ H = tv σ H fun y H1 => ta σ H1 fun x H2 => asR x fun a => ∃ C dx fs, H2 a = some (.ins C dx fs) ∧ Cls K C ∧ NoAttr K C f ∧ fs.length < 1000 ∧ D.nx σ (upd H2 a (.ins C dx (putF f y fs))) := by
  unfold sFld asR
  congr; funext y H1; congr; funext x H2
  exact propext ⟨fun ⟨a, C, dx, fs, e, h⟩ => ⟨a, e, C, dx, fs, h⟩, fun ⟨a, e, C, dx, fs, h⟩ => ⟨a, C, dx, fs, e, h⟩⟩
theorem rd_meth (C : Addr) (m : Str) (sp : Sp) (E : XK) (ta : TE) (t : TA) (σ : St) (H : Hp) (Q : VK) : tMeth C m sp [] E ta t σ H Q = ta σ H fun x H1 => asR x fun a => ∃ dx fs, H1 a = some (.ins C dx fs) ∧ fs.lookup m = none ∧ t σ H1 fun vs H2 => sp (.ref a :: vs) H2 Q E := by
  unfold tMeth asR
  congr; funext x H1
  simp only [List.append_nil]
  refine propext ⟨fun ⟨a, dx, fs, e, h1, h2, q⟩ => ⟨a, e, dx, fs, h1, h2, ?_⟩, fun ⟨a, e, dx, fs, h1, h2, q⟩ => ⟨a, dx, fs, e, h1, h2, ?_⟩⟩
  · subst e; exact q
  · subst e; exact q
theorem rd_make (C : Addr) (sp : Sp) (E : XK) (t : TA) (σ : St) (H : Hp) (Q : VK) : tMake C sp [] E t σ H Q = t σ H fun vs H1 => ∀ x dx, H1 x = none → H1 dx = none → dx ≠ x → sp (.ref x :: vs) (upd (upd H1 dx (.own x)) x (.ins C dx [])) (fun v H2 => v = .non ∧ Q (.ref x) H2) E := by
  unfold tMake; simp only [List.append_nil]
theorem rd_dpop1 (td ty : TE) (σ : St) (H : Hp) (Q : VK) : tDPop1 td ty σ H Q = td σ H fun x H1 => asR x fun a => IsD H1 a ∧ ty σ H1 fun y H2 => ∃ kvs k v, H2 a = some (.dK kvs) ∧ y = kV k ∧ valV kvs k = some v ∧ Q v (upd H2 a (.dK (dropK kvs k))) := rfl
theorem rd_dget1 (td ty : TE) (σ : St) (H : Hp) (Q : VK) : tDGet1 td ty σ H Q = td σ H fun x H1 => asR x fun a => IsD H1 a ∧ ty σ H1 fun y H2 => ∃ o, DGet H2 a y o ∧ Q (o.getD .non) H2 := rfl
theorem rd_dget2 (td ty tx : TE) (σ : St) (H : Hp) (Q : VK) : tDGet2 td ty tx σ H Q = td σ H fun x H1 => asR x fun a => IsD H1 a ∧ ty σ H1 fun y H2 => tx σ H2 fun z H3 => ∃ o, DGet H3 a y o ∧ Q (o.getD z) H3 := rfl
/-! list.pop() and list.pop(0) -/
theorem rPop_eq (l : Addr) (H : Hp) (Q : VK) : rPop (.ref l) [] H Q = ∃ xs, H l = some (.lst xs) ∧ ∃ y, xs[xs.length - 1]? = some y ∧ Q y (upd H l (.lst xs.dropLast)) := by
  refine propext ⟨fun ⟨_, xs, y, e1, _, h1, h2, q⟩ => ?_, fun ⟨xs, h1, y, h2, q⟩ => ⟨l, xs, y, rfl, rfl, h1, h2, q⟩⟩
  cases e1; exact ⟨xs, h1, y, h2, q⟩
theorem rPopAt_eq (l : Addr) (i : Int) (H : Hp) (Q : VK) : rPopAt (.ref l) [.int i] H Q = ∃ xs, H l = some (.lst xs) ∧ (-(2 ^ 63) ≤ i ∧ i < 2 ^ 63) ∧ ∃ k, seqIndex? i xs.length = some k ∧ ∃ y, xs[k]? = some y ∧ Q y (upd H l (.lst (xs.eraseIdx k))) := by
  refine propext ⟨fun ⟨_, xs, _, k, y, e1, e2, h1, h2, h3, h4, h5, q⟩ => ?_, fun ⟨xs, h1, ⟨h2, h3⟩, k, h4, y, h5, q⟩ => ⟨l, xs, i, k, y, rfl, rfl, h1, h2, h3, h4, h5, q⟩⟩
  cases e1; cases e2; exact ⟨xs, h1, ⟨h2, h3⟩, k, h4, y, h5, q⟩
/-! len(d) -/
def rLenD : List V → Hp → VK → Prop := fun xs H Q => ∃ a kvs, xs = [V.ref a] ∧ H a = some (.dK kvs) ∧ Q (.int kvs.length) H
theorem rLenD_eq (a : Addr) (H : Hp) (Q : VK) : rLenD [.ref a] H Q = ∃ kvs, H a = some (.dK kvs) ∧ Q (.int kvs.length) H := by
  refine propext ⟨fun ⟨_, kvs, e, h⟩ => ?_, fun ⟨kvs, h⟩ => ⟨a, kvs, rfl, h⟩⟩
  cases e; exact ⟨kvs, h⟩
/-! list(d) -/
def rListD : List V → Hp → VK → Prop := fun xs H Q => ∃ a kvs, xs = [V.ref a] ∧ H a = some (.dK kvs) ∧ ∀ l, H l = none → Q (.ref l) (upd H l (.lst (kvs.map fun kv => kV kv.1)))
theorem rListD_eq (a : Addr) (H : Hp) (Q : VK) : rListD [.ref a] H Q = ∃ kvs, H a = some (.dK kvs) ∧ ∀ l, H l = none → Q (.ref l) (upd H l (.lst (kvs.map fun kv => kV kv.1))) := by
  refine propext ⟨fun ⟨_, kvs, e, h⟩ => ?_, fun ⟨kvs, h⟩ => ⟨a, kvs, rfl, h⟩⟩
  cases e; exact ⟨kvs, h⟩
theorem kV_rel {P : Program} {w : World} {k : Key} {u : Value} (h : (mixKind P w).is k u = true) : RelV (kV k) u := by
  rcases keyIs_shape h with ⟨i, t, rfl, rfl⟩ | ⟨x, t, rfl, rfl⟩
  · exact ⟨t, rfl⟩
  · exact ⟨t, rfl⟩
end
end L2

namespace L2
open PySem PySem.Spec PyProof.Rows
/-! ### for x in d: the dict stands frozen from then on -/
def Itk (a : Addr) (ob : Obj) (kvs : List (Key × V)) : It :=
  ⟨fun i H => H a = some (.frz ob (.dK kvs)) ∧ i < kvs.length, fun i H x H' => H' = H ∧ ∃ kv, kvs[i]? = some kv ∧ x = kV kv.1, fun i H => H a = some (.frz ob (.dK kvs)) ∧ kvs.length ≤ i⟩
def epO (ob : Obj) : Nat := match ob.data with
  | .dict _ ep => ep
  | _ => 0
section
variable {P : Program} {w : World} {X : Cx} {tg : Expr} {pins : List (Addr × Obj)} {σ : St} {H : Hp} {s : Shared} {a : Addr} {ob : Obj} {kvs : List (Key × V)}
theorem frz_at {h : Heap} (ok : HOk P w H h) (e : H a = some (.frz ob (.dK kvs))) : (a == sysModules) = false ∧ ∃ vs, KV kvs vs ∧ h.DictAt (mixKind P w) a vs (epO ob) := by
  obtain ⟨h1, h2⟩ := (show ObjOk P w H h a (.frz ob (.dK kvs)) from ok a _ e)
  obtain ⟨_, lo, vs, r, o, es, ep, g1, g2, g3, g4⟩ := (show kvs.length ≤ sizeLine ∧ (a == sysModules) = false ∧ ∃ vs, KV kvs vs ∧ h.DictOf (mixKind P w) a vs from h2)
  rw [h1] at g1; cases g1
  have : epO ob = ep := by unfold epO; rw [g3]
  rw [this]
  exact ⟨lo, vs, r, ob, es, h1, g2, g3, g4⟩
theorem KV.at_ {vs : List (Key × Value)} (r : KV kvs vs) {i : Nat} {kv : Key × V} (h : kvs[i]? = some kv) : ∃ u, vs[i]? = some (kv.1, u) := by
  have hk := r.keys
  have h1 : (kvs.map (·.1))[i]? = some kv.1 := by rw [List.getElem?_map, h]; rfl
  rw [hk, List.getElem?_map, Option.map_eq_some_iff] at h1
  obtain ⟨⟨k, u⟩, h2, h3⟩ := h1
  exact ⟨u, by rw [h2]; cases h3; rfl⟩
theorem turn_key (K : PySem.W.Frag) (it : Addr) (a : Addr) (ob : Obj) (kvs : List (Key × V)) : Turn P w K tg (Itk a ob kvs) [it] it (fun i h => h.IsKeyIter it a i kvs.length (epO ob)) where
  mem := by simp
  obj := fun i h st b hb => by
    have e : b = it := by simpa using hb
    subst e
    obtain ⟨o, e, c, d⟩ := st
    exact ⟨o, e, fun v z => by rw [d] at z; cases z⟩
  keep := fun i h h' st k => by
    obtain ⟨o, e, c, d⟩ := st
    exact ⟨o, k it (by simp) o e, c, d⟩
  item := by
    intro X hP hw hK hc i pins s σ H E I hf st hg
    subst hP hw hK
    obtain ⟨ha, hi⟩ := hg
    obtain ⟨lo, vs, rel, dd⟩ := frz_at I.hok ha
    obtain ⟨f0, f1, f2, f3, f4, f5⟩ := hf it (by simp)
    obtain ⟨kv, hkv⟩ : ∃ kv, kvs[i]? = some kv := ⟨kvs[i], by simp [hi]⟩
    obtain ⟨u, hu⟩ := rel.at_ hkv
    have hlen := rel.length
    rw [hlen] at st
    refine wpAny_pyNext_dict_item st dd hu fun key h' hkey st' sb => ?_
    have I1 : Inv X pins σ H { s with heap := h' } := I.turned (t' := s.toks) (fun b o hb e => (sb.2 b hb).trans e) f0 f1 f3 f4 f5
    obtain ⟨o, e, c, d⟩ := id st'
    rw [← hlen] at st'
    exact ⟨key, rfl, go_of (s := { s with heap := h' }) e c d (by decide) ⟨kV kv.1, H, I1, kV_rel hkey, ⟨rfl, kv, hkv, rfl⟩, st', fun b hb => (hf b hb).1⟩⟩
  done := by
    intro X hP hw hK hc i pins s σ H E I hf st hg
    subst hP hw hK
    obtain ⟨ha, hi⟩ := hg
    obtain ⟨lo, vs, rel, dd⟩ := frz_at I.hok ha
    obtain ⟨f0, f1, f2, f3, f4, f5⟩ := hf it (by simp)
    have hlen := rel.length
    rw [hlen] at st
    exact wpAny_pyNext_dict_end (I.ok.hd hc) st dd (List.getElem?_eq_none (by omega)) fun h' eb => ⟨rfl, I.turned (t' := s.toks) (fun b o hb e => eb b o hb e) f0 f1 f3 f4 f5⟩
  self := fun _ _ _ _ _ st h => wpAny_pyIter_keyiter st h
theorem Inv.freeze {ob : Obj} (I : Inv X pins σ H s) (e : H a = some (.dK kvs)) (ho : s.heap.get? a = some ob) : Inv X pins σ (upd H a (.frz ob (.dK kvs))) s := by
  have mu : Mut (H a) := by rw [e]; exact True.intro
  have hk := I.hok a _ e
  refine I.un (t' := s.toks) (h' := s.heap) (Un.write mu (.inl rfl) (fun b u _ q => q) ⟨ob, ho⟩) (I.hok.write mu (.inl rfl) (fun b u _ q => q) ⟨ob, ho⟩ ?_)
  exact ⟨ho, hk⟩
def iKey (tl : TE) : TI := fun σ H R => tl σ H fun x H1 => ∃ a kvs, x = .ref a ∧ H1 a = some (.dK kvs) ∧ ∀ ob, R (Itk a ob kvs) (upd H1 a (.frz ob (.dK kvs)))
theorem pi_key {l : Expr} {tl : TE} (hl : PE X l tl) : PI X tg l (iKey tl) := by
  intro pins s σ H R I h
  refine thn (hl pins s σ H _ I h) fun v s1 ⟨x, H1, I1, r1, q1⟩ => ?_
  obtain ⟨a, kvs, e, ha, q⟩ := q1
  subst e
  cases r1
  obtain ⟨_, lo, vs, rel, o, es, ep, g1, g2, g3, g4⟩ := dk_of I1.hok ha
  have I2 := I1.freeze ha g1
  obtain ⟨_, vs', rel', dd⟩ := frz_at I2.hok upd_same
  refine wpAny_pyIter_dict lo dd ?_
  have hlen := rel'.length
  refine ⟨s1.heap.objs.size, [s1.heap.objs.size], _, _, upd H1 a (.frz o (.dK kvs)), rfl, I2.kept (t' := s1.toks) fun b o e => Heap.get?_push_of_some _ e, turn_key _ _ a o kvs, ⟨_, Heap.get?_push_size _ rfl, rfl, by rw [hlen]; rfl⟩, fun b hb => ?_, q o⟩
  have e : b = s1.heap.objs.size := by simpa using hb
  subst e
  exact I2.fpOk (Nat.le_refl _) (I2.hok.fresh (Nat.le_refl _))
theorem qi_key {l : Expr} {tl : TE} (hl : QE X l tl) : QI X tg l (iKey tl) := ⟨pi_key hl.h⟩
end
def ForK (a : Addr) (ob : Obj) (kvs : List (Key × V)) (g : TG) (tb : TS) (D : Ends) (σ : St) (H : Hp) : Prop :=
  ∃ W : Nat → Nat → St → Hp → Prop, (∃ m, W 0 m σ H) ∧ ∀ i m σ H, W i m σ H →
    ((Itk a ob kvs).stop i H ∧ D.nx σ H) ∨ ((Itk a ob kvs).go i H ∧ ∃ N : St → Hp → Prop, (∀ σ' H', N σ' H' → ∃ m', m' < m ∧ W (i + 1) m' σ' H') ∧ ∀ x H', (Itk a ob kvs).yld i H x H' → g x σ H' fun σ2 H2 => tb { D with nx := N, ct := N, bk := D.nx } σ2 H2)
theorem tFor_key (tl : TE) (g : TG) (tb : TS) (D : Ends) (σ : St) (H : Hp) : tFor (iKey tl) g tb D σ H = tl σ H (fun x H1 => asR x fun a => ∃ kvs, H1 a = some (.dK kvs) ∧ ∀ ob, ForK a ob kvs g tb D σ (upd H1 a (.frz ob (.dK kvs)))) := by
  unfold tFor iKey asR
  congr; funext x H1
  exact propext ⟨fun ⟨a, kvs, e, h⟩ => ⟨a, e, kvs, h⟩, fun ⟨a, e, kvs, h⟩ => ⟨a, kvs, e, h⟩⟩
theorem ForK.go {a : Addr} {ob : Obj} {kvs : List (Key × V)} {g : TG} {tb : TS} {D : Ends} {σ : St} {H : Hp} (Pv : Nat → St → Hp → Prop) (h0 : Pv 0 σ H) (hl : ∀ i σ H2, Pv i σ H2 → H2 a = some (.frz ob (.dK kvs)))
    (hs : ∀ (i : Nat) (kv : Key × V) (σ : St) (H : Hp) (N : St → Hp → Prop), kvs[i]? = some kv → Pv i σ H → (∀ σ' H', Pv (i + 1) σ' H' → N σ' H') → g (kV kv.1) σ H fun σ2 H2 => tb { D with nx := N, ct := N, bk := D.nx } σ2 H2)
    (hd : ∀ σ H, Pv kvs.length σ H → D.nx σ H) : ForK a ob kvs g tb D σ H := by
  refine ⟨fun i m σ H => m = kvs.length - i ∧ i ≤ kvs.length ∧ Pv i σ H, ⟨kvs.length, by simp, Nat.zero_le _, h0⟩, ?_⟩
  rintro i m σ H ⟨rfl, hi, p⟩
  have q := hl i σ H p
  by_cases hlt : i < kvs.length
  · refine .inr ⟨⟨q, hlt⟩, Pv (i + 1), fun σ' H' p' => ⟨kvs.length - (i + 1), by omega, rfl, hlt, p'⟩, fun x H' y => ?_⟩
    obtain ⟨e, kv, h1, h2⟩ := y
    subst e h2
    exact hs i kv σ _ _ h1 p fun _ _ q => q
  · have e : i = kvs.length := by omega
    subst e
    exact .inl ⟨⟨q, Nat.le_refl _⟩, hd σ H p⟩
/-! {k: v} -/
section
variable {X : Cx}
theorem qe_disp1 {pos : Pos} {k v : Expr} {tk tv : TE} (hk : QE X k tk) (hv : QE X v tv) : QE X (.Dict [some k] [v] pos) (tDisp [(tk, tv)]) := ⟨pe_disp (pps_cons hk.h hv.h pps_nil) rfl rfl (by simp) (by simp)⟩
theorem rd_disp1 (tk tv : TE) (σ : St) (H : Hp) (Q : VK) : tDisp [(tk, tv)] σ H Q = ∀ p, H p = none → tk σ (upd H p (.dK [])) fun x H1 => tv σ H1 fun y H2 => H2 p = some (.dK []) ∧ ∃ kvs : List (Key × V), [(x, y)] = kvs.map (fun kv => (kV kv.1, kv.2)) ∧ kvs.length ≤ 15 ∧ Q (.ref p) (upd H2 p (.dK (mergeK [] kvs))) := rfl
end
end L2

namespace My
open PySem L2
/-! ### a dict of counts -/
structure WD (T : Nat) (ks : List Nat) (F : Nat → Nat) (kvs : List (Key × V)) : Prop where
  keys : kvs.map (·.1) = ks.map (fun t : Nat => (Sum.inl (t : Int) : Key))
  nd : ks.Nodup
  le : ∀ t ∈ ks, t ≤ T
  val : ∀ t : Nat, valV kvs (Sum.inl (t : Int)) = if t ∈ ks then some (vI (F t)) else none
  out : ∀ t, t ∉ ks → F t = 0
theorem WD.len {T : Nat} {ks : List Nat} {F : Nat → Nat} {kvs : List (Key × V)} (h : WD T ks F kvs) : kvs.length ≤ T + 1 := by
  have h1 : kvs.length = ks.length := by have := congrArg List.length h.keys; simpa using this
  rw [h1]
  exact pigeon (T + 1) ks h.nd (fun x hx => by have := h.le x hx; omega)
theorem WD.getD {T : Nat} {ks : List Nat} {F : Nat → Nat} {kvs : List (Key × V)} (h : WD T ks F kvs) (t : Nat) : (valV kvs (Sum.inl (t : Int))).getD (.int 0) = vI (F t) := by
  rw [h.val]
  by_cases e : t ∈ ks
  · rw [if_pos e]; rfl
  · rw [if_neg e, h.out t e]; rfl
theorem WD.none {T : Nat} : WD T [] (fun _ => 0) [] where
  keys := rfl
  nd := List.nodup_nil
  le := fun t ht => by cases ht
  val := fun t => by rw [if_neg (by simp)]; rfl
  out := fun _ _ => rfl
theorem putK_keys (kvs : List (Key × V)) (k : Key) (v : V) : (putK kvs k v).map (·.1) = if (valV kvs k).isSome then kvs.map (·.1) else kvs.map (·.1) ++ [k] := by
  unfold putK
  rw [valV_any]
  by_cases h : (valV kvs k).isSome = true
  · rw [if_pos h, if_pos h, List.map_map]
    refine List.map_congr_left fun kv _ => ?_
    show (if kv.1 = k then (kv.1, v) else kv).1 = kv.1
    split <;> rfl
  · rw [if_neg h, if_neg h, List.map_append]; rfl
theorem WD.put {T : Nat} {ks : List Nat} {F : Nat → Nat} {kvs : List (Key × V)} (h : WD T ks F kvs) {s n : Nat} (hs : s ≤ T) : ∃ ks', WD T ks' (fun t => if t = s then n else F t) (putK kvs (Sum.inl (s : Int)) (vI n)) := by
  refine ⟨if s ∈ ks then ks else ks ++ [s], ?_, ?_, ?_, fun t => ?_, fun t ht => ?_⟩
  · rw [putK_keys, h.val]
    by_cases e : s ∈ ks
    · rw [if_pos e, if_pos e]; exact h.keys
    · rw [if_neg e, if_neg e, h.keys, List.map_append]; rfl
  · by_cases e : s ∈ ks
    · rw [if_pos e]; exact h.nd
    · rw [if_neg e]
      refine List.nodup_append.mpr ⟨h.nd, by simp, fun a ha b hb => ?_⟩
      rw [List.mem_singleton.mp hb]
      intro z; exact e (z ▸ ha)
  · intro t ht
    by_cases e : s ∈ ks
    · rw [if_pos e] at ht; exact h.le t ht
    · rw [if_neg e] at ht
      rcases List.mem_append.mp ht with z | z
      · exact h.le t z
      · rw [List.mem_singleton.mp z]; exact hs
  · rw [valV_put]
    by_cases e : t = s
    · subst e
      rw [if_pos rfl, if_pos rfl]
      by_cases e2 : t ∈ ks
      · rw [if_pos e2, if_pos e2]
      · rw [if_neg e2, if_pos (by simp)]
    · have e3 : (Sum.inl (t : Int) : Key) ≠ Sum.inl (s : Int) := fun z => e (by have := Sum.inl.inj z; omega)
      rw [if_neg e3, h.val, if_neg e]
      by_cases e2 : s ∈ ks
      · rw [if_pos e2]
      · rw [if_neg e2]
        by_cases e4 : t ∈ ks
        · rw [if_pos e4, if_pos (List.mem_append_left _ e4)]
        · rw [if_neg e4, if_neg (fun z => by rcases List.mem_append.mp z with y | y; exact e4 y; exact e (List.mem_singleton.mp y))]
  · by_cases e2 : s ∈ ks
    · rw [if_pos e2] at ht
      rw [if_neg (fun z : t = s => ht (by rw [z]; exact e2))]; exact h.out t ht
    · rw [if_neg e2] at ht
      rw [if_neg (fun z : t = s => ht (by rw [z]; simp))]
      exact h.out t (fun z => ht (List.mem_append_left _ z))
theorem WD.at_ {T : Nat} {ks : List Nat} {F : Nat → Nat} {kvs : List (Key × V)} (h : WD T ks F kvs) {i : Nat} {kv : Key × V} (hi : kvs[i]? = some kv) : ∃ t : Nat, ks[i]? = some t ∧ kv.1 = Sum.inl (t : Int) ∧ t ≤ T ∧ valV kvs (Sum.inl (t : Int)) = some (vI (F t)) := by
  have h1 : (kvs.map (·.1))[i]? = some kv.1 := by rw [List.getElem?_map, hi]; rfl
  rw [h.keys, List.getElem?_map, Option.map_eq_some_iff] at h1
  obtain ⟨t, h2, h3⟩ := h1
  have hm := List.mem_of_getElem? h2
  exact ⟨t, h2, h3.symm, h.le t hm, by rw [h.val, if_pos hm]⟩
theorem WD.length {T : Nat} {ks : List Nat} {F : Nat → Nat} {kvs : List (Key × V)} (h : WD T ks F kvs) : kvs.length = ks.length := by
  have := congrArg List.length h.keys; simpa using this
theorem WD.one {T : Nat} : WD T [0] (fun t => if t = 0 then 1 else 0) [(Sum.inl 0, V.int 1)] where
  keys := rfl
  nd := by simp
  le := fun t ht => by rw [List.mem_singleton.mp ht]; exact Nat.zero_le _
  val := fun t => by
    by_cases e : t = 0
    · subst e; rfl
    · rw [if_neg (by simpa using e)]
      unfold valV
      rw [List.find?_cons_of_neg (by
        intro z
        have : (Sum.inl 0 : Key) = Sum.inl (t : Int) := of_decide_eq_true z
        have := Sum.inl.inj this
        omega)]
      rfl
  out := fun t ht => if_neg (by simpa using ht)
/-! ### sums over keys -/
theorem tot_point (n x m : Nat) : tot n (fun s => if s = x then m else 0) = if x < n then m else 0 := by
  induction n with
  | zero => rfl
  | succ n ih =>
    rw [tot_succ, ih]
    by_cases e : n = x
    · subst e; rw [if_neg (by omega), if_pos rfl, if_pos (by omega)]; omega
    · rw [if_neg e]
      by_cases e2 : x < n
      · rw [if_pos e2, if_pos (by omega)]; rfl
      · rw [if_neg e2, if_neg (by omega)]
theorem sum_keys : ∀ (ks : List Nat) (n : Nat) (f : Nat → Nat), ks.Nodup → (∀ t ∈ ks, t < n) → (ks.map f).sum = tot n (fun t => if t ∈ ks then f t else 0)
  | [], n, f, _, _ => by
    rw [tot_congr (G := fun _ => 0) (fun s _ => if_neg (by simp)), tot_const0]; rfl
  | x :: r, n, f, nd, h => by
    rw [List.nodup_cons] at nd
    rw [List.map_cons, List.sum_cons, sum_keys r n f nd.2 (fun t ht => h t (List.mem_cons_of_mem _ ht))]
    have h1 : tot n (fun t => if t ∈ x :: r then f t else 0) = tot n (fun t => (if t = x then f x else 0) + if t ∈ r then f t else 0) := tot_congr fun s _ => by
      by_cases e : s = x
      · subst e
        rw [if_pos List.mem_cons_self, if_pos rfl, if_neg nd.1]; rfl
      · rw [if_neg e]
        by_cases e2 : s ∈ r
        · rw [if_pos (List.mem_cons_of_mem _ e2), if_pos e2]; omega
        · rw [if_neg e2, if_neg (fun z => by rcases List.mem_cons.mp z with y | y; exact e y; exact e2 y)]
    rw [h1, tot_add, tot_point, if_pos (h x List.mem_cons_self)]
theorem WD.sum {T : Nat} {ks : List Nat} {F : Nat → Nat} {kvs : List (Key × V)} (h : WD T ks F kvs) (g : Nat → Nat) : (ks.map fun t => F t * g t).sum = tot (T + 1) (fun t => F t * g t) := by
  rw [sum_keys ks (T + 1) _ h.nd (fun t ht => by have := h.le t ht; omega)]
  refine tot_congr fun t _ => ?_
  by_cases e : t ∈ ks
  · rw [if_pos e]
  · rw [if_neg e, h.out t e, Nat.zero_mul]
/-- turns of putting a figure behind -/
def wy (fs ws : List Nat) : Nat → Nat → Nat
  | 0 => fun t => if t = 0 then 1 else 0
  | n + 1 => sh (wy fs ws n) (if n = 0 then fs else ws)
theorem wy_spF (fs ws : List Nat) : ∀ n s, wy fs ws (n + 1) s = spF fs ws n s
  | 0, s => by
    show sh (fun t => if t = 0 then 1 else 0) (if 0 = 0 then fs else ws) s = fs.count s
    rw [if_pos rfl, ← sh_one fs s]
    refine sh_congr fun i _ => ?_
    cases i with
    | zero => rfl
    | succ i => rw [if_neg (by omega)]; simp
  | n + 1, s => by
    show sh (wy fs ws (n + 1)) (if n + 1 = 0 then fs else ws) s = sh (spF fs ws n) ws s
    rw [if_neg (by omega)]
    exact sh_congr fun i _ => wy_spF fs ws n i
def conv (F G : Nat → Nat) (T : Nat) : Nat := tot (T + 1) (fun t => F t * G (T - t))
theorem tot_cut {n m : Nat} {F : Nat → Nat} (h : n ≤ m) (hF : ∀ i, n ≤ i → i < m → F i = 0) : tot m F = tot n F := by
  induction m with
  | zero => have : n = 0 := by omega
            subst this; rfl
  | succ m ih =>
    by_cases e : n = m + 1
    · subst e; rfl
    · rw [tot_succ, ih (by omega) (fun i h1 h2 => hF i h1 (by omega)), hF m (by omega) (by omega)]; rfl
theorem conv_sh (F G : Nat → Nat) (T : Nat) : ∀ ws : List Nat, conv F (sh G ws) T = sh (conv F G) ws T
  | [] => by
    unfold conv
    rw [tot_congr (G := fun _ => 0) (fun s _ => by show F s * 0 = 0; omega), tot_const0]; rfl
  | w :: r => by
    have h1 : conv F (sh G (w :: r)) T = tot (T + 1) (fun t => F t * (if w ≤ T - t then G (T - t - w) else 0)) + conv F (sh G r) T := by
      unfold conv
      rw [← tot_add]
      refine tot_congr fun t _ => ?_
      unfold sh
      rw [List.map_cons, List.sum_cons, Nat.mul_add]
    have h2 : sh (conv F G) (w :: r) T = (if w ≤ T then conv F G (T - w) else 0) + sh (conv F G) r T := by
      unfold sh
      rw [List.map_cons, List.sum_cons]
    rw [h1, h2, conv_sh F G T r]
    congr 1
    by_cases e : w ≤ T
    · rw [if_pos e, tot_cut (n := T - w + 1) (by omega) (fun i h3 h4 => ?_)]
      · unfold conv
        refine tot_congr fun t ht => ?_
        rw [if_pos (by omega), show T - t - w = T - w - t by omega]
      · rw [if_neg (by omega), Nat.mul_zero]
    · rw [if_neg e, tot_congr (G := fun _ => 0) (fun s _ => by rw [if_neg (by omega), Nat.mul_zero]), tot_const0]
theorem conv_wy (fs ws : List Nat) {p : Nat} (hp : 1 ≤ p) : ∀ m T, conv (wy fs ws p) (wy ws ws m) T = wy fs ws (p + m) T
  | 0, T => by
    unfold conv
    rw [tot_succ, tot_congr (G := fun _ => 0) (fun t ht => by show _ * (if T - t = 0 then 1 else 0) = 0; rw [if_neg (by omega), Nat.mul_zero]), tot_const0]
    show 0 + wy fs ws p T * (if T - T = 0 then 1 else 0) = _
    rw [if_pos (by omega)]; simp
  | m + 1, T => by
    have h1 : wy ws ws (m + 1) = sh (wy ws ws m) ws := by
      show sh (wy ws ws m) (if m = 0 then ws else ws) = _
      rw [ite_self]
    rw [h1, conv_sh]
    show _ = sh (wy fs ws (p + m)) (if p + m = 0 then fs else ws) T
    rw [if_neg (by omega)]
    exact sh_congr fun i _ => conv_wy fs ws hp m i
/-! ### one turn over a dict -/
/-- what the first of the keys, and of one more the first worths, have given -/
def inn (T : Nat) (F : Nat → Nat) (us : List Nat) (t s : Nat) : Nat := (us.map fun w => if t + w = s ∧ s ≤ T then F t else 0).sum
def gat (T : Nat) (F : Nat → Nat) (us ks : List Nat) (s : Nat) : Nat := (ks.map fun t => inn T F us t s).sum
theorem inn_take {us : List Nat} {j w : Nat} (h : us[j]? = some w) (T : Nat) (F : Nat → Nat) (t s : Nat) : inn T F (us.take (j + 1)) t s = inn T F (us.take j) t s + if t + w = s ∧ s ≤ T then F t else 0 := by
  unfold inn
  rw [List.take_add_one, h, List.map_append, List.sum_append]
  simp
theorem gat_take {ks : List Nat} {j t : Nat} (h : ks[j]? = some t) (T : Nat) (F : Nat → Nat) (us : List Nat) (s : Nat) : gat T F us (ks.take (j + 1)) s = gat T F us (ks.take j) s + inn T F us t s := by
  unfold gat
  rw [List.take_add_one, h, List.map_append, List.sum_append]
  simp
theorem gat_sh {T : Nat} {ks : List Nat} {F : Nat → Nat} {kvs : List (Key × V)} (h : WD T ks F kvs) (us : List Nat) (s : Nat) : gat T F us ks s = if s ≤ T then sh F us s else 0 := by
  have h0 : gat T F us ks s = (ks.map fun t => F t * (us.map fun w => if t + w = s ∧ s ≤ T then 1 else 0).sum).sum := by
    unfold gat
    refine sum_map_congr fun t _ => ?_
    unfold inn
    induction us with
    | nil => rfl
    | cons w r ih =>
      rw [List.map_cons, List.sum_cons, List.map_cons, List.sum_cons, Nat.mul_add, ih]
      congr 1
      split
      · rw [Nat.mul_one]
      · rw [Nat.mul_zero]
  rw [h0, h.sum]
  clear h0
  induction us with
  | nil =>
    rw [tot_congr (G := fun _ => 0) (fun t _ => by show F t * 0 = 0; omega), tot_const0]
    split <;> rfl
  | cons w r ih =>
    have h1 : tot (T + 1) (fun t => F t * ((w :: r).map fun w => if t + w = s ∧ s ≤ T then 1 else 0).sum) = tot (T + 1) (fun t => if t + w = s ∧ s ≤ T then F t else 0) + tot (T + 1) (fun t => F t * (r.map fun w => if t + w = s ∧ s ≤ T then 1 else 0).sum) := by
      rw [← tot_add]
      refine tot_congr fun t _ => ?_
      rw [List.map_cons, List.sum_cons, Nat.mul_add]
      congr 1
      split
      · rw [Nat.mul_one]
      · rw [Nat.mul_zero]
    rw [h1, ih]
    by_cases e : s ≤ T
    · rw [if_pos e, if_pos e]
      show _ = ((w :: r).map fun w => if w ≤ s then F (s - w) else 0).sum
      rw [List.map_cons, List.sum_cons]
      congr 1
      by_cases e2 : w ≤ s
      · rw [if_pos e2, tot_congr (G := fun t => if t = s - w then F (s - w) else 0) (fun t _ => ?_), tot_point, if_pos (by omega)]
        by_cases e3 : t = s - w
        · subst e3; rw [if_pos rfl, if_pos (by omega)]
        · rw [if_neg e3, if_neg (by omega)]
      · rw [if_neg e2, tot_congr (G := fun _ => 0) (fun t _ => if_neg (by omega)), tot_const0]
    · rw [if_neg e, if_neg e, tot_congr (G := fun _ => 0) (fun t _ => if_neg (by omega)), tot_const0]
theorem sh_le {F : Nat → Nat} {M : Nat} (h : ∀ i, F i ≤ M) (ws : List Nat) (s : Nat) : sh F ws s ≤ ws.length * M := by
  unfold sh
  induction ws with
  | nil => simp
  | cons w r ih =>
    rw [List.map_cons, List.sum_cons, List.length_cons, Nat.succ_mul]
    have : (if w ≤ s then F (s - w) else 0) ≤ M := by
      split
      · exact h _
      · exact Nat.zero_le _
    omega
theorem wy_le {fs ws : List Nat} (hf : fs.length ≤ 16) (hw : ws.length ≤ 16) : ∀ m t, wy fs ws m t ≤ 16 ^ m
  | 0, t => by
    show (if t = 0 then 1 else 0) ≤ 1
    split <;> omega
  | m + 1, t => by
    show sh (wy fs ws m) (if m = 0 then fs else ws) t ≤ _
    refine Nat.le_trans (sh_le (wy_le hf hw m) _ t) ?_
    rw [Nat.pow_succ, Nat.mul_comm]
    refine Nat.mul_le_mul_left _ ?_
    split <;> assumption
theorem pow16 {m : Nat} (h : m ≤ 10) : 16 ^ m < 2 ^ 64 := Nat.lt_of_le_of_lt (Nat.pow_le_pow_right (by decide) h) (by decide)
theorem cmul_wy {fs ws : List Nat} (hf : fs.length ≤ 16) (hw : ws.length ≤ 16) {n m x y L : Nat} (hn : n ≤ 20) (hm : m ≤ n) : CMul ((if x ≤ L then wy fs ws m x else 0 : Nat) : Int) ((if y ≤ L then wy ws ws (n - m) y else 0 : Nat) : Int) := by
  have key : ∀ (gs : List Nat) (k u : Nat), gs.length ≤ 16 → k ≤ 10 → -(2 ^ 64 : Int) < ((if u ≤ L then wy gs ws k u else 0 : Nat) : Int) ∧ ((if u ≤ L then wy gs ws k u else 0 : Nat) : Int) < 2 ^ 64 := fun gs k u hg hk => by
    have h1 := wy_le hg hw k u
    have h2 := pow16 hk
    have h3 : (if u ≤ L then wy gs ws k u else 0) < 2 ^ 64 := by
      split
      · omega
      · decide
    generalize (if u ≤ L then wy gs ws k u else 0) = z at h3
    have h4 : (2 ^ 64 : Int) = ((2 ^ 64 : Nat) : Int) := by decide
    rw [h4]
    omega
  by_cases e : m ≤ 10
  · exact .inl (key fs m x hf e)
  · exact .inr (key ws (n - m) y hw (by omega))
theorem due_sum {fs ws : List Nat} {n m L : Nat} {ks : List Nat} {kvs : List (Key × V)} (h : WD L ks (fun t => if t ≤ L then wy fs ws m t else 0) kvs) (hm : 1 ≤ m) (hn : m ≤ n) :
    (ks.map fun x => (if x ≤ L then wy fs ws m x else 0) * (if L - x ≤ L then wy ws ws (n - m) (L - x) else 0)).sum = wy fs ws n L := by
  rw [h.sum (fun x => if L - x ≤ L then wy ws ws (n - m) (L - x) else 0)]
  have h1 := conv_wy fs ws hm (n - m) L
  rw [show m + (n - m) = n by omega] at h1
  rw [← h1]
  unfold conv
  refine tot_congr fun x hx => ?_
  rw [if_pos (by omega), if_pos (by omega)]
theorem spd_wy {ws : List Nat} {n : Nat} (hn : 1 ≤ n) (s : Nat) : spd ws n s = wy (if n = 1 then ws else ws.tail) ws n s := by
  unfold spd
  rw [← wy_spF, show n - 1 + 1 = n by omega]
end My

set_option maxHeartbeats 4000000
local macro_rules | `(tactic| walk_at "wp") => `(tactic| (try simp only [L2.tFor_key, L2.rd_disp1, L2.rd_lcR1, L2.rd_lcR2, L2.asR1_eq, L2.rd_forE, L2.rd_gtup, L2.rd_gnil, L2.rd_gcons, L2.rd_aug0, L2.rd_aug, L2.rd_ipI, L2.rd_augS, L2.rIxL_eq, L2.rIsN_eq, L2.rNotN_eq, L2.isNon_int, L2.isNon_non, L2.isNon_ref, L2.rCount_eq, L2.rd_lfS, L2.rNeL_eq, L2.rMax1_eq, L2.rd_neN, Option.isSome_none, Option.isSome_some, L2.rNeT_eq, L2.rd_fld, L2.rd_sfld, L2.rd_meth, L2.rd_make, L2.rd_dpop1, L2.rd_dget1, L2.rd_dget2, L2.rPop_eq, L2.rPopAt_eq, L2.rLenD_eq, L2.rListD_eq, L2.rd_var0, L2.rd_varS, L2.rd_c, L2.rd_op, L2.rd_un, L2.rd_rI, L2.rd_rI0, L2.rd_rU, L2.rd_eqI, L2.rd_neI, L2.rd_eqS, L2.rd_neS, L2.rd_eqB, L2.asB_eq, L2.asI1_eq, L2.asI2_eq, L2.asR_eq, L2.asI_eq, L2.rd_test, L2.rd_tB, L2.rd_and, L2.rd_or, L2.rd_not, L2.rd_andV, L2.rd_orV, L2.rd_notV, L2.rd_if, L2.rd_seq, L2.rd_next, L2.rd_ifS, L2.rd_ret, L2.rd_retN, L2.rd_drop, L2.rd_asg, L2.rd_name, L2.rd_sub, L2.rd_setL, L2.rd_call, L2.rd_cb, L2.rd_nil, L2.rd_cons, L2.rd_tup, L2.rd_lst, L2.rd_bm0, L2.rd_bm, L2.rd_for1, L2.rd_for2, L2.rd_forS, L2.rd_start, L2.rd_iteT, L2.rd_iteF, L2.rd_iteD, L2.rd_iteN, L2.rd_iteNB, L2.rd_nn, L2.rd_sl, L2.rd_nopart, L2.rd_part, L2.rd_slL, L2.rd_cat, L2.rd_dnew, L2.rd_din, L2.rd_dnotin, L2.rd_dget, L2.rd_dput, L2.rd_rep, L2.rSum1_eq, L2.rMin1_eq, L2.rIndex_eq, L2.rd_lcS, L2.rd_ints, L2.asI3_eq, L2.rd_forD, L2.rJoin_eq, L2.rFind_eq, L2.rd_ixS, L2.rEqL_eq, L2.rd_rev, L2.asS_eq, L2.rd_lcT, L2.cxOf_K, L2.rIxQ_eq, L2.rLenQ_eq, L2.rListQ_eq, L2.rTupQ_eq, L2.rIsa_ii, L2.rIsa_ib, L2.rIsa_ss, L2.rIsa_ref, if_true, if_false, L2.rAppend_eq, L2.rReverse_eq, L2.tyV_list, L2.tyV_str, L2.rMin2_eq, L2.rMax2_eq, L2.rInt1_int, L2.rInt1_bl, List.map_cons, List.map_nil, List.length_cons, List.length_nil, List.cons_append, List.nil_append, List.append_nil, List.replicate, Nat.reduceAdd, Nat.reduceSub, List.set_cons_zero, List.set_cons_succ, Int.reduceLT, Int.reduceLE, Int.reduceNeg, Int.reducePow, Int.reduceToNat, Int.reduceAdd, Int.reduceMul, Int.toNat_natCast, Int.zero_add, true_and, and_true, Bool.not_true, Bool.not_false]))
local macro_rules | `(tactic| walk_at "cast") => `(tactic| simp only [My.vI, Int.natCast_add, Int.natCast_mul, Int.natCast_emod, Int.natCast_ediv, Int.natCast_one, Int.natCast_succ, Nat.pow_succ, Int.natCast_pow, Int.cast_ofNat_Int])

local macro_rules | `(tactic| walk_at "wq") => `(tactic| (try simp only [L2.tFor_key, L2.rd_disp1, L2.rd_lcR1, L2.rd_lcR2, L2.asR1_eq, L2.rd_forE, L2.rd_gtup, L2.rd_gnil, L2.rd_gcons, L2.rd_aug0, L2.rd_aug, L2.rd_ipI, L2.rd_augS, L2.rIxL_eq, L2.rIsN_eq, L2.rNotN_eq, L2.isNon_int, L2.isNon_non, L2.isNon_ref, L2.rCount_eq, L2.rd_lfS, L2.rNeL_eq, L2.rMax1_eq, L2.rd_neN, Option.isSome_none, Option.isSome_some, L2.rNeT_eq, L2.rd_fld, L2.rd_sfld, L2.rd_meth, L2.rd_make, L2.rd_dpop1, L2.rd_dget1, L2.rd_dget2, L2.rPop_eq, L2.rPopAt_eq, L2.rLenD_eq, L2.rListD_eq, L2.rd_var0, L2.rd_varS, L2.rd_c, L2.rd_op, L2.rd_un, L2.rd_rI, L2.rd_rI0, L2.rd_rU, L2.rd_eqI, L2.rd_neI, L2.rd_eqS, L2.rd_neS, L2.rd_eqB, L2.asB_eq, L2.asI1_eq, L2.asI2_eq, L2.asR_eq, L2.asI_eq, L2.rd_test, L2.rd_tB, L2.rd_and, L2.rd_or, L2.rd_not, L2.rd_andV, L2.rd_orV, L2.rd_notV, L2.rd_if, L2.rd_seq, L2.rd_next, L2.rd_ifS, L2.rd_ret, L2.rd_retN, L2.rd_drop, L2.rd_asg, L2.rd_name, L2.rd_sub, L2.rd_setL, L2.rd_call, L2.rd_cb, L2.rd_nil, L2.rd_cons, L2.rd_tup, L2.rd_lst, L2.rd_bm0, L2.rd_bm, L2.rd_for1, L2.rd_for2, L2.rd_forS, L2.rd_start, L2.rd_iteT, L2.rd_iteF, L2.rd_iteD, L2.rd_iteN, L2.rd_iteNB, L2.rd_nn, L2.rd_sl, L2.rd_nopart, L2.rd_part, L2.rd_slL, L2.rd_cat, L2.rd_dnew, L2.rd_din, L2.rd_dnotin, L2.rd_dget, L2.rd_dput, L2.rd_rep, L2.rSum1_eq, L2.rMin1_eq, L2.rIndex_eq, L2.rd_lcS, L2.rd_ints, L2.asI3_eq, L2.rd_forD, L2.rJoin_eq, L2.rFind_eq, L2.rd_ixS, L2.rEqL_eq, L2.rd_rev, L2.asS_eq, L2.rd_lcT, L2.cxOf_K, L2.rIxQ_eq, L2.rLenQ_eq, L2.rListQ_eq, L2.rTupQ_eq, L2.rIsa_ii, L2.rIsa_ib, L2.rIsa_ss, L2.rIsa_ref, if_true, if_false, L2.rAppend_eq, L2.rReverse_eq, L2.tyV_list, L2.tyV_str, L2.rMin2_eq, L2.rMax2_eq, L2.rInt1_int, L2.rInt1_bl, List.map_cons, List.map_nil, List.length_cons, List.length_nil, List.cons_append, List.nil_append, List.append_nil, Nat.reduceAdd, Nat.reduceSub, List.set_cons_zero, List.set_cons_succ, Int.reduceLT, Int.reduceLE, Int.reduceNeg, Int.reducePow, Int.reduceToNat, Int.reduceAdd, Int.reduceMul, Int.toNat_natCast, Int.zero_add, true_and, and_true, Bool.not_true, Bool.not_false]))
namespace My
open PySem PySem.Spec PyProof.Rows L2
def top (i : Nat) : Stmt := PySem.Challenge.pw_figurefall_k11_many.main.body.getD i (.Pass ⟨0, 0, 0, 0⟩)
structure Txt (mg : Str → Option Value) : Prop where
  b_bool : mg "bool" = none
  b_enumerate : mg "enumerate" = none
  b_int : mg "int" = none
  b_isinstance : mg "isinstance" = none
  b_len : mg "len" = none
  b_list : mg "list" = none
  b_min : mg "min" = none
  b_range : mg "range" = none
  b_tuple : mg "tuple" = none
  c_LEAST_BASE : GI mg "LEAST_BASE" 2
  c_MOST_BASE : GI mg "MOST_BASE" 16
  c_MOST_COUNTED : GI mg "MOST_COUNTED" 20
  c_MOST_TARGET : GI mg "MOST_TARGET" 1000
  c_MOST_WORTH : GI mg "MOST_WORTH" 50
abbrev s__law_whole : Stmt := top 23
def scx__law_whole : { s : Scope // defScope s__law_whole = s } := by
  refine ⟨?_, ?_⟩
  rotate_left
  · conv => lhs; whnf
def bdx__law_whole : { b : List Stmt // defBody s__law_whole = b } := by
  refine ⟨?_, ?_⟩
  rotate_left
  · conv => lhs; whnf
theorem scy__law_whole : FnScope ["_law_found"] ["_law_found"] scx__law_whole.1 := ⟨rfl, rfl, rfl, by decide +kernel, rfl, by decide +kernel, by decide +kernel⟩
def sp__law_whole (K : PySem.W.Frag) : Sp := fun vs H Q _ => ∃ i : Int, vs = [.int i] ∧ Q (.bl true) H
abbrev s__law_same : Stmt := top 28
def scx__law_same : { s : Scope // defScope s__law_same = s } := by
  refine ⟨?_, ?_⟩
  rotate_left
  · conv => lhs; whnf
def bdx__law_same : { b : List Stmt // defBody s__law_same = b } := by
  refine ⟨?_, ?_⟩
  rotate_left
  · conv => lhs; whnf
theorem scy__law_same : FnScope ["_law_handed_here", "_law_row", "_law_k"] ["_law_handed_here", "_law_row"] scx__law_same.1 := ⟨rfl, rfl, rfl, by decide +kernel, rfl, by decide +kernel, by decide +kernel⟩
def sp__law_same (K : PySem.W.Frag) : Sp := fun vs H Q _ => ∃ (a c : Addr) (xs : List Int), vs = [.ref a, .ref c] ∧ SqS K H a (xs.map V.int) ∧ SqS K H c (xs.map V.int) ∧ xs.length ≤ 1000000 ∧ Q (.bl true) H
abbrev s_lengthened : Stmt := top 19
def scx_lengthened : { s : Scope // defScope s_lengthened = s } := by
  refine ⟨?_, ?_⟩
  rotate_left
  · conv => lhs; whnf
def bdx_lengthened : { b : List Stmt // defBody s_lengthened = b } := by
  refine ⟨?_, ?_⟩
  rotate_left
  · conv => lhs; whnf
theorem scy_lengthened : FnScope ["tally", "worths", "longer", "total", "many", "worth"] ["tally", "worths"] scx_lengthened.1 := ⟨rfl, rfl, rfl, by decide +kernel, rfl, by decide +kernel, by decide +kernel⟩
def sp_lengthened (K : PySem.W.Frag) : Sp := fun vs H Q _ => ∃ (t a : Addr) (tl ws : List Nat), vs = [.ref t, .ref a] ∧ H t = some (.lst (tl.map vI)) ∧ SqS K H a (ws.map vI) ∧ tl.length ≤ 2000 ∧ (∀ x ∈ ws, x ≤ 50) ∧ ∀ p H', H p = none → H' p = some (.lst ((tab (tl.length + 50) (sh (fun i => tl.getD i 0) ws)).map vI)) → Same H H' → Q (.ref p) H'
abbrev s_spread : Stmt := top 20
def scx_spread : { s : Scope // defScope s_spread = s } := by
  refine ⟨?_, ?_⟩
  rotate_left
  · conv => lhs; whnf
def bdx_spread : { b : List Stmt // defBody s_spread = b } := by
  refine ⟨?_, ?_⟩
  rotate_left
  · conv => lhs; whnf
theorem scy_spread : FnScope ["worths", "length", "firsts", "tally", "place"] ["worths", "length"] scx_spread.1 := ⟨rfl, rfl, rfl, by decide +kernel, rfl, by decide +kernel, by decide +kernel⟩
def sp_spread (K : PySem.W.Frag) : Sp := fun vs H Q _ => ∃ (a : Addr) (ws : List Nat) (n : Nat), vs = [.ref a, vI n] ∧ SqS K H a (ws.map vI) ∧ 2 ≤ ws.length ∧ (∀ x ∈ ws, x ≤ 50) ∧ 1 ≤ n ∧ n ≤ 20 ∧ ∀ p H', H p = none → H' p = some (.lst ((tab (50 * n + 1) (spd ws n)).map vI)) → Same H H' → Q (.ref p) H'
abbrev s_check_target : Stmt := top 18
def scx_check_target : { s : Scope // defScope s_check_target = s } := by
  refine ⟨?_, ?_⟩
  rotate_left
  · conv => lhs; whnf
def bdx_check_target : { b : List Stmt // defBody s_check_target = b } := by
  refine ⟨?_, ?_⟩
  rotate_left
  · conv => lhs; whnf
theorem scy_check_target : FnScope ["target"] ["target"] scx_check_target.1 := ⟨rfl, rfl, rfl, by decide +kernel, rfl, by decide +kernel, by decide +kernel⟩
def sp_check_target (K : PySem.W.Frag) : Sp := fun vs H Q _ => ∃ t : Nat, vs = [vI t] ∧ t ≤ 1000 ∧ Q .non H
abbrev s_check_length : Stmt := top 17
def scx_check_length : { s : Scope // defScope s_check_length = s } := by
  refine ⟨?_, ?_⟩
  rotate_left
  · conv => lhs; whnf
def bdx_check_length : { b : List Stmt // defBody s_check_length = b } := by
  refine ⟨?_, ?_⟩
  rotate_left
  · conv => lhs; whnf
theorem scy_check_length : FnScope ["length"] ["length"] scx_check_length.1 := ⟨rfl, rfl, rfl, by decide +kernel, rfl, by decide +kernel, by decide +kernel⟩
def sp_check_length (K : PySem.W.Frag) : Sp := fun vs H Q _ => ∃ t : Nat, vs = [vI t] ∧ 1 ≤ t ∧ t ≤ 20 ∧ Q .non H
abbrev s_check_worth : Stmt := top 12
def scx_check_worth : { s : Scope // defScope s_check_worth = s } := by
  refine ⟨?_, ?_⟩
  rotate_left
  · conv => lhs; whnf
def bdx_check_worth : { b : List Stmt // defBody s_check_worth = b } := by
  refine ⟨?_, ?_⟩
  rotate_left
  · conv => lhs; whnf
theorem scy_check_worth : FnScope ["worth"] ["worth"] scx_check_worth.1 := ⟨rfl, rfl, rfl, by decide +kernel, rfl, by decide +kernel, by decide +kernel⟩
def sp_check_worth (K : PySem.W.Frag) : Sp := fun vs H Q _ => ∃ w : Nat, vs = [vI w] ∧ w ≤ 50 ∧ Q .non H
abbrev s_check_base : Stmt := top 9
def scx_check_base : { s : Scope // defScope s_check_base = s } := by
  refine ⟨?_, ?_⟩
  rotate_left
  · conv => lhs; whnf
def bdx_check_base : { b : List Stmt // defBody s_check_base = b } := by
  refine ⟨?_, ?_⟩
  rotate_left
  · conv => lhs; whnf
theorem scy_check_base : FnScope ["base"] ["base"] scx_check_base.1 := ⟨rfl, rfl, rfl, by decide +kernel, rfl, by decide +kernel, by decide +kernel⟩
def sp_check_base (K : PySem.W.Frag) : Sp := fun vs H Q _ => ∃ b : Nat, vs = [vI b] ∧ 2 ≤ b ∧ b ≤ 16 ∧ Q .non H
abbrev s_check_worths : Stmt := top 13
def scx_check_worths : { s : Scope // defScope s_check_worths = s } := by
  refine ⟨?_, ?_⟩
  rotate_left
  · conv => lhs; whnf
def bdx_check_worths : { b : List Stmt // defBody s_check_worths = b } := by
  refine ⟨?_, ?_⟩
  rotate_left
  · conv => lhs; whnf
theorem scy_check_worths : FnScope ["worths", "worth"] ["worths"] scx_check_worths.1 := ⟨rfl, rfl, rfl, by decide +kernel, rfl, by decide +kernel, by decide +kernel⟩
def sp_check_worths (K : PySem.W.Frag) : Sp := fun vs H Q _ => ∃ (a : Addr) (ws : List Nat), vs = [.ref a] ∧ SqS K H a (ws.map vI) ∧ 2 ≤ ws.length ∧ ws.length ≤ 16 ∧ (∀ x ∈ ws, x ≤ 50) ∧ Q .non H
abbrev s_many_of : Stmt := top 21
def scx_many_of : { s : Scope // defScope s_many_of = s } := by
  refine ⟨?_, ?_⟩
  rotate_left
  · conv => lhs; whnf
def bdx_many_of : { b : List Stmt // defBody s_many_of = b } := by
  refine ⟨?_, ?_⟩
  rotate_left
  · conv => lhs; whnf
theorem scy_many_of : FnScope ["worths", "length", "target", "tally"] ["worths", "length", "target"] scx_many_of.1 := ⟨rfl, rfl, rfl, by decide +kernel, rfl, by decide +kernel, by decide +kernel⟩
def sp_many_of (K : PySem.W.Frag) : Sp := fun vs H Q _ => ∃ (a : Addr) (ws : List Nat) (n t : Nat), vs = [.ref a, vI n, vI t] ∧ SqS K H a (ws.map vI) ∧ 2 ≤ ws.length ∧ ws.length ≤ 16 ∧ (∀ x ∈ ws, x ≤ 50) ∧ 1 ≤ n ∧ n ≤ 20 ∧ t ≤ 1000 ∧ ∀ H', Same H H' → Q (vI (if t < 50 * n + 1 then spd ws n t else 0)) H'
abbrev s__law_handed : Stmt := top 27
def scx__law_handed : { s : Scope // defScope s__law_handed = s } := by
  refine ⟨?_, ?_⟩
  rotate_left
  · conv => lhs; whnf
def bdx__law_handed : { b : List Stmt // defBody s__law_handed = b } := by
  refine ⟨?_, ?_⟩
  rotate_left
  · conv => lhs; whnf
theorem scy__law_handed : FnScope ["_law_row", "_law_way"] ["_law_row", "_law_way"] scx__law_handed.1 := ⟨rfl, rfl, rfl, by decide +kernel, rfl, by decide +kernel, by decide +kernel⟩
def sp__law_handed (K : PySem.W.Frag) : Sp := fun vs H Q _ => ∃ (a : Addr) (xs : List V) (i : Int), vs = [.ref a, .int i] ∧ H a = some (.lst xs) ∧ xs.length ≤ 1000000 ∧ (∀ p H', H p = none → H' p = some (.tup xs) → Same H H' → Q (.ref p) H') ∧ (∀ p H', H p = none → H' p = some (.lst xs) → Same H H' → Q (.ref p) H')
abbrev s__law_at : Stmt := top 24
def scx__law_at : { s : Scope // defScope s__law_at = s } := by
  refine ⟨?_, ?_⟩
  rotate_left
  · conv => lhs; whnf
def bdx__law_at : { b : List Stmt // defBody s__law_at = b } := by
  refine ⟨?_, ?_⟩
  rotate_left
  · conv => lhs; whnf
theorem scy__law_at : FnScope ["_law_script", "_law_k"] ["_law_script", "_law_k"] scx__law_at.1 := ⟨rfl, rfl, rfl, by decide +kernel, rfl, by decide +kernel, by decide +kernel⟩
def sp__law_at (K : PySem.W.Frag) : Sp := fun vs H Q _ => ∃ (a : Addr) (ns : List Int) (k : Nat), vs = [.ref a, vI k] ∧ SqS K H a (ns.map V.int) ∧ Q (.int (cell ns k)) H
abbrev s__law_ways : Stmt := top 29
def scx__law_ways : { s : Scope // defScope s__law_ways = s } := by
  refine ⟨?_, ?_⟩
  rotate_left
  · conv => lhs; whnf
def bdx__law_ways : { b : List Stmt // defBody s__law_ways = b } := by
  refine ⟨?_, ?_⟩
  rotate_left
  · conv => lhs; whnf
theorem scy__law_ways : FnScope ["_law_row", "_law_first", "_law_many", "_law_target", "_law_ways_here", "_law_turn", "_law_longer", "_law_total", "_law_worth"] ["_law_row", "_law_first", "_law_many", "_law_target"] scx__law_ways.1 := ⟨rfl, rfl, rfl, by decide +kernel, rfl, by decide +kernel, by decide +kernel⟩
def sp__law_ways (K : PySem.W.Frag) : Sp := fun vs H Q _ => ∃ (a b : Addr) (ws fs : List Nat) (m L : Nat), vs = [.ref a, .ref b, vI m, vI L] ∧ SqS K H a (ws.map vI) ∧ SqS K H b (fs.map vI) ∧ L ≤ 1000 ∧ m ≤ 20 ∧ ∀ p H' ks kvs, H p = none → H' p = some (.dK kvs) → WD L ks (fun t => if t ≤ L then wy fs ws m t else 0) kvs → Same H H' → Q (.ref p) H'
abbrev s__law_mixed : Stmt := top 25
def scx__law_mixed : { s : Scope // defScope s__law_mixed = s } := by
  refine ⟨?_, ?_⟩
  rotate_left
  · conv => lhs; whnf
def bdx__law_mixed : { b : List Stmt // defBody s__law_mixed = b } := by
  refine ⟨?_, ?_⟩
  rotate_left
  · conv => lhs; whnf
theorem scy__law_mixed : FnScope ["_law_cell", "_law_place", "_law_first"] ["_law_cell", "_law_place"] scx__law_mixed.1 := ⟨rfl, rfl, rfl, by decide +kernel, rfl, by decide +kernel, by decide +kernel⟩
def sp__law_mixed (K : PySem.W.Frag) : Sp := fun vs H Q _ => ∃ c p : Int, vs = [.int c, .int p] ∧ Q (.int (mixed c p)) H
abbrev s__law_book : Stmt := top 26
def scx__law_book : { s : Scope // defScope s__law_book = s } := by
  refine ⟨?_, ?_⟩
  rotate_left
  · conv => lhs; whnf
def bdx__law_book : { b : List Stmt // defBody s__law_book = b } := by
  refine ⟨?_, ?_⟩
  rotate_left
  · conv => lhs; whnf
theorem scy__law_book : FnScope ["_law_script", "_law_k", "_law_base", "_law_way", "_law_cell", "_law_most", "_law_row", "_law_figure"] ["_law_script", "_law_k"] scx__law_book.1 := ⟨rfl, rfl, rfl, by decide +kernel, rfl, by decide +kernel, by decide +kernel⟩
def sp__law_book (K : PySem.W.Frag) : Sp := fun vs H Q _ => ∃ (a : Addr) (ns : List Int) (k : Nat), vs = [.ref a, vI k] ∧ SqS K H a (ns.map V.int) ∧ ∀ (ws : List Nat) p H', 2 ≤ ws.length → ws.length ≤ 16 → (∀ x ∈ ws, x ≤ 50) → H p = none → H' p = some (.lst (ws.map vI)) → Same H H' → Q (.ref p) H'
abbrev s_law : Stmt := top 30
def scx_law : { s : Scope // defScope s_law = s } := by
  refine ⟨?_, ?_⟩
  rotate_left
  · conv => lhs; whnf
def bdx_law : { b : List Stmt // defBody s_law = b } := by
  refine ⟨?_, ?_⟩
  rotate_left
  · conv => lhs; whnf
theorem scy_law : FnScope ["_law_script", "_law_row", "_law_length", "_law_part", "_law_cell", "_law_target", "_law_place", "_law_first", "_law_ahead", "_law_behind", "_law_due", "_law_total", "_law_handed_here", "_law_found"] ["_law_script"] scx_law.1 := ⟨rfl, rfl, rfl, by decide +kernel, rfl, by decide +kernel, by decide +kernel⟩
def sp_law (K : PySem.W.Frag) : Sp := fun vs H Q _ => ∃ (a : Addr) (ns : List Int), vs = [.ref a] ∧ SqL K H a (ns.map V.int) ∧ ns.length ≤ 63 ∧ ∀ H', Q (.bl true) H'
end My
namespace My
open PySem PySem.Spec PyProof.Rows L2
section
variable {P : Program} {w : World} {K : PySem.W.Frag} {mg : Str → Option Value} {base : Heap}
theorem ok__law_whole (T : Txt mg) (F : FunAt K mg "_law_whole" s__law_whole ["_law_found"])  : Good P w K mg base CX0 1 "_law_whole" ["_law_found"] (sp__law_whole K) := by
  refine F.goodQ scx__law_whole.2 bdx__law_whole.2 scy__law_whole (fun vs H Q E h => ?_) (fun f cdv A outer s H vs Q E hr h => ?_)
  · obtain ⟨i, rfl, k⟩ := h
    rfl
  · obtain ⟨i, rfl, k⟩ := h
    have hu := hu_of hr
    refine ⟨_, (qb_one (qs_ret (qe_and (qe_callB call_isaQ (by rfl) T.b_isinstance bt_isinstance (qa_cons (qv 0) (qa_cons (qe_ty T.b_int bt_int) qa_nil))) (qe_one (qe_not (qe_callB call_isaQ (by rfl) T.b_isinstance bt_isinstance (qa_cons (qv 0) (qa_cons (qe_ty T.b_bool bt_bool) qa_nil)))))))), ?_⟩
    walk_at "wp"
    exact k
end
end My
namespace My
open PySem PySem.Spec PyProof.Rows L2
section
variable {P : Program} {w : World} {K : PySem.W.Frag} {mg : Str → Option Value} {base : Heap}
theorem ok__law_same (T : Txt mg) (F : FunAt K mg "_law_same" s__law_same ["_law_handed_here", "_law_row"]) (G__law_whole : Good P w K mg base CX0 1 "_law_whole" ["_law_found"] (sp__law_whole K)) : Good P w K mg base CX0 2 "_law_same" ["_law_handed_here", "_law_row"] (sp__law_same K) := by
  refine F.goodQ scx__law_same.2 bdx__law_same.2 scy__law_same (fun vs H Q E h => ?_) (fun f cdv A outer s H vs Q E hr h => ?_)
  · obtain ⟨a, c, xs, rfl, h1, h2, h3, k⟩ := h
    rfl
  · obtain ⟨a, c, xs, rfl, h1, h2, h3, k⟩ := h
    have hu := hu_of hr
    refine ⟨_, (qb_cons (qs_if (qt_cmpR op_ne (qe_callB call_len_sq (by rfl) T.b_len PySem.boot_len (qa_cons (qv 0) qa_nil)) (qe_callB call_len_sq (by rfl) T.b_len PySem.boot_len (qa_cons (qv 1) qa_nil)) (nomark _)) (qb_one (qs_ret qe_bl)) qb_nil)
      (qb_cons (qs_for PassesOwn.never rfl (qi_range1 rfl T.b_range (qa_cons (qe_callB call_len_sq (by rfl) T.b_len PySem.boot_len (qa_cons (qv 1) qa_nil)) qa_nil)) (qg_name (i := 2) scy__law_same.nd rfl (Or.inl rfl)) (qb_one (qs_if (qw_or (qt_not (qt_val (qe_callG G__law_whole (hr.mono (by decide)) pass0 (qa_cons (qe_ix ix_sq (qv 0) (qv 2) (fun _ _ => rfl)) qa_nil)))) (qw_or1 (qt_cmpR op_ne (qe_ix ix_sq (qv 0) (qv 2) (fun _ _ => rfl)) (qe_ix ix_sq (qv 1) (qv 2) (fun _ _ => rfl)) (nomark _)))).qt (qb_one (qs_ret qe_bl)) qb_nil)))
      (qb_one (qs_ret qe_bl)))), ?_⟩
    walk_at "wp"
    refine ⟨_, h1, _, h2, ?_⟩
    rw [if_pos rfl]
    refine ⟨_, h2, ?_⟩
    rw [List.length_map]
    refine ⟨by omega, by omega, ForR.go (fun i σ H2 => ∃ v, σ = [some (.ref a), some (.ref c), v] ∧ H2 = H) ⟨none, rfl, rfl⟩ ?_ ?_⟩
    · rintro i σ H2 N hi ⟨v, rfl, rfl⟩ hN
      have hx : xs[i]? = some (xs[i]'(by omega)) := List.getElem?_eq_getElem (by omega)
      have hx' : atI (xs.map V.int) (i : Int) = some (.int (xs[i]'(by omega))) := atI_nat (by rw [List.getElem?_map, hx]; rfl)
      walk_at "wp"
      refine ⟨_, h1, _, hx', _, rfl, ?_⟩
      walk_at "wp"
      refine ⟨_, h1, _, hx', _, h2, _, hx', ?_⟩
      walk_at "wp"
      exact hN _ _ ⟨_, rfl, rfl⟩
    · rintro σ H2 ⟨v, rfl, rfl⟩
      walk_at "wp"
      exact k
end
end My
namespace My
open PySem PySem.Spec PyProof.Rows L2
section
variable {P : Program} {w : World} {K : PySem.W.Frag} {mg : Str → Option Value} {base : Heap}
theorem ok_lengthened (T : Txt mg) (F : FunAt K mg "lengthened" s_lengthened ["tally", "worths"])  : Good P w K mg base CX0 1 "lengthened" ["tally", "worths"] (sp_lengthened K) := by
  refine F.goodQ scx_lengthened.2 bdx_lengthened.2 scy_lengthened (fun vs H Q E h => ?_) (fun f cdv A outer s H vs Q E hr h => ?_)
  · obtain ⟨t, a, tl, ws, rfl, ht, hS, hl, hw, k⟩ := h
    rfl
  · obtain ⟨t, a, tl, ws, rfl, ht, hS, hl, hw, k⟩ := h
    have hu := hu_of hr
    refine ⟨_, (qb_cons (qs_set (i := 2) scy_lengthened.nd rfl (Or.inl rfl) (qe_op op_rep (qe_lst (qa_cons qe_int qa_nil)) (qe_op op_add (qe_callB call_len_sq (by rfl) T.b_len PySem.boot_len (qa_cons (qv 0) qa_nil)) (qe_gi T.c_MOST_WORTH))))
      (qb_cons (qs_for PassesOwn.never rfl (qi_enum rfl T.b_enumerate (qa_cons (qv 0) qa_nil)) (qg_tup (K := K) rfl rfl (qgs_cons (qg_name (i := 3) scy_lengthened.nd rfl (Or.inl rfl)) (qgs_cons (qg_name (i := 4) scy_lengthened.nd rfl (Or.inl rfl)) qgs_nil))) (qb_one (qs_if (qt_cmpR op_gt (qv 4) qe_int (nomark _)) (qb_one (qs_for PassesOwn.never rfl (qi_sq (qv 1)) (qg_name (i := 5) scy_lengthened.nd rfl (Or.inl rfl)) (qb_one (qs_augS (qv 2) (qe_op op_add (qv 3) (qv 5)) (get_listK (K := K) rfl) (qv 4) ip_add set_list)))) qb_nil)))
      (qb_one (qs_ret (qv 2))))), ?_⟩
    walk_at "wp"
    refine ⟨by decide, fun z hz => ⟨_, SqS.of (Same.new hz _ _ ht), ?_⟩⟩
    rw [List.length_map, show ((tl.length : Int) + 50) = ((tl.length + 50 : Nat) : Int) by omega]
    generalize hn : tl.length + 50 = n
    refine ⟨_, upd_same, by omega, by omega, ?_, fun p hp => ?_⟩
    · rw [Int.toNat_natCast]
      exact Nat.le_of_lt (small_line (by simp only [List.length_cons, List.length_nil]; omega))
    rw [Int.toNat_natCast, tab_zero]
    have hp' : H p = none := (Same.new hz).free hp
    have hsz : Same H (upd (upd H z (.lst [.int 0])) p (.lst ((tab n fun _ => 0).map vI))) := (Same.new hz).trans (Same.new hp)
    refine ForE.go (xs := tl.map vI) (SqL.of (hsz _ _ ht)) (fun i σ H2 => i ≤ tl.length ∧ ∃ v1 v2 v3, σ = [some (.ref t), some (.ref a), some (.ref p), v1, v2, v3] ∧ H2 p = some (.lst ((tab n (accT tl ws i)).map vI)) ∧ Same H H2) ⟨by omega, none, none, none, rfl, ?_, hsz⟩ ?_ ?_ ?_
    · rw [upd_same, tab_congr (G := accT tl ws 0) (fun s _ => (accT_zero tl ws s).symm)]
    · rintro i σ H2 _ ⟨_, _, _, _, _, _, h2⟩ o e
      rw [hsz _ _ ht] at e
      cases e
      exact h2 _ _ ht
    · rintro i x q σ H2 N hx ⟨hi, v1, v2, v3, rfl, hp2, h2⟩ hq hN
      rw [List.getElem?_map, Option.map_eq_some_iff] at hx
      obtain ⟨m, hm, rfl⟩ := hx
      have hi' : i < tl.length := (List.getElem?_eq_some_iff.mp hm).1
      have hmd : tl.getD i 0 = m := by rw [List.getD_eq_getElem?_getD, hm]; rfl
      have hpq : p ≠ q := ne_of_none hp2 hq
      have h3 : Same H (upd H2 q (.tup [.int (i : Int), vI m])) := h2.trans (Same.new hq)
      have hp3 : upd H2 q (.tup [.int (i : Int), vI m]) p = some (.lst ((tab n (accT tl ws i)).map vI)) := by rw [upd_ne hpq]; exact hp2
      walk_at "wp"
      refine ⟨_, SqT.of upd_same, by rfl, ?_⟩
      walk_at "wp"
      generalize upd H2 q (.tup [.int (i : Int), vI m]) = H3 at h3 hp3
      refine ite2 (fun c => ?_) (fun c => ?_)
      · refine ForS.base (xs := ws.map vI) hS (fun j σ H4 => ∃ v3, σ = [some (.ref t), some (.ref a), some (.ref p), some (.int i), some (vI m), v3] ∧ H4 p = some (.lst ((tab n (fun s => accT tl ws i s + innT (ws.take j) i m s)).map vI)) ∧ Same H H4) ⟨_, rfl, ?_, h3⟩ ?_ ?_ ?_
        · rw [hp3, List.take_zero]
          exact tabV_congr fun s _ => by rw [innT_nil]; rfl
        · rintro j σ H4 _ ⟨_, _, _, h4⟩
          exact h4
        · rintro j x σ H4 N2 hx ⟨v3, rfl, hp4, h4⟩ hN2
          rw [List.getElem?_map, Option.map_eq_some_iff] at hx
          obtain ⟨w, hw', rfl⟩ := hx
          have hwl := hw w (List.mem_of_getElem? hw')
          walk_at "wp"
          rw [show (i : Int) + (w : Int) = ((i + w : Nat) : Int) by omega]
          refine ⟨_, SqL.of hp4, _, tab_at (by omega), ?_⟩
          walk_at "wp"
          refine ⟨_, hp4, i + w, ixN_nat (by rw [List.length_map, tab_len]; omega), hN2 _ _ ⟨_, rfl, ?_, fun b o e => ?_⟩⟩
          · rw [upd_same]
            rw [show (V.int ((accT tl ws i (i + w) + innT (ws.take j) i m (i + w) : Nat) + (m : Int))) = vI (accT tl ws i (i + w) + innT (ws.take j) i m (i + w) + m) by rw [vI]; congr 1]
            rw [← List.map_set, tab_set]
            refine tabV_congr (fun s _ => ?_)
            rw [innT_take hw']
            by_cases e : s = i + w
            · rw [if_pos e, if_pos e, e]; omega
            · rw [if_neg e, if_neg e]; omega
          · rw [upd_ne (ne_of_none e hp')]; exact h4 _ _ e
        · rintro σ H4 ⟨v3, rfl, hp4, h4⟩
          refine hN _ _ ⟨by omega, _, _, _, rfl, ?_, h4⟩
          rw [hp4, List.length_map, List.take_of_length_le (Nat.le_refl _)]
          exact tabV_congr (fun s _ => by rw [accT_succ, hmd])
      · refine hN _ _ ⟨by omega, _, _, _, rfl, ?_, h3⟩
        rw [hp3]
        exact tabV_congr (fun s _ => by rw [accT_succ, hmd, show m = 0 by omega, innT_zero]; rfl)
    · rintro σ H2 ⟨_, v1, v2, v3, rfl, hp2, h2⟩
      walk_at "wp"
      refine k p H2 hp' ?_ h2
      rw [hp2, List.length_map, hn]
      exact tabV_congr (fun s _ => accT_all tl ws s)
end
end My
namespace My
open PySem PySem.Spec PyProof.Rows L2
section
variable {P : Program} {w : World} {K : PySem.W.Frag} {mg : Str → Option Value} {base : Heap}
theorem ok_spread (T : Txt mg) (F : FunAt K mg "spread" s_spread ["worths", "length"]) (G_lengthened : Good P w K mg base CX0 1 "lengthened" ["tally", "worths"] (sp_lengthened K)) : Good P w K mg base CX0 2 "spread" ["worths", "length"] (sp_spread K) := by
  refine F.goodQ scx_spread.2 bdx_spread.2 scy_spread (fun vs H Q E h => ?_) (fun f cdv A outer s H vs Q E hr h => ?_)
  · obtain ⟨a, ws, n, rfl, hS, h2, hw, hn1, hn2, k⟩ := h
    rfl
  · obtain ⟨a, ws, n, rfl, hS, h2, hw, hn1, hn2, k⟩ := h
    have hu := hu_of hr
    refine ⟨_, (qb_cons (qs_set (i := 2) scy_spread.nd rfl (Or.inl rfl) (qe_ifExp (qt_cmpR op_eq (qv 1) qe_int (nomark _)) (qv 0) (qe_slice (sl_sqQ (K := K) rfl) (qv 0) (qo_some qe_int) qo_none)))
      (qb_cons (qs_set (i := 3) scy_spread.nd rfl (Or.inl rfl) (qe_callG G_lengthened (hr.mono (by decide)) pass0 (qa_cons (qe_lst (qa_cons qe_int qa_nil)) (qa_cons (qv 2) qa_nil))))
      (qb_cons (qs_for PassesOwn.never rfl (qi_range1 rfl T.b_range (qa_cons (qe_op op_sub (qv 1) qe_int) qa_nil)) (qg_name (i := 4) scy_spread.nd rfl (Or.inl rfl)) (qb_one (qs_set (i := 3) scy_spread.nd rfl (Or.inl rfl) (qe_callG G_lengthened (hr.mono (by decide)) pass0 (qa_cons (qv 3) (qa_cons (qv 0) qa_nil))))))
      (qb_one (qs_ret (qv 3)))))), ?_⟩
    refine seq_R (fun σ H1 => ∃ (b : Addr) (fs : List Nat), σ = [some (.ref a), some (vI n), some (.ref b), none, none] ∧ SqS K H1 b (fs.map vI) ∧ (∀ x ∈ fs, x ≤ 50) ∧ fs = (if n = 1 then ws else ws.tail) ∧ Same H H1) (fun N hN => ?_) ?_
    · walk_at "wp"
      refine ite2 (fun c => ?_) (fun c => ?_)
      · exact hN _ _ ⟨a, ws, rfl, hS, hw, by rw [if_pos (by omega)], Same.refl _⟩
      · refine rSlQ_of hS ?_ (fun p H1 hp hp1 hs => hN _ _ ⟨p, ws.tail, rfl, ?_, fun x hx => hw x (List.mem_of_mem_tail hx), by rw [if_neg (by omega)], hs⟩)
        · rw [show (1 : Int) = ((1 : Nat) : Int) from rfl, HT.sIx_nat, List.length_map]
          omega
        · rw [show (1 : Int) = ((1 : Nat) : Int) from rfl, cut_from (by rw [List.length_map]; omega)] at hp1
          rw [List.map_tail, ← List.drop_one]
          exact hp1
    rintro σ H1 ⟨b, fs, rfl, hb, hf, hfs, h1⟩
    walk_at "wp"
    refine ⟨by decide, fun z hz => ⟨z, b, [1], fs, rfl, upd_same, (Same.new hz).sq hb, by decide, hf, fun p H2 hp hp2 h12 => ?_⟩⟩
    have h2' : Same H H2 := (h1.trans (Same.new hz)).trans h12
    walk_at "wp"
    refine ⟨by omega, by omega, ?_⟩
    rw [show ((n : Int) - 1).toNat = n - 1 by omega]
    refine ForR.go (fun i σ H3 => ∃ (q : Addr) (v : Option V), σ = [some (.ref a), some (vI n), some (.ref b), some (.ref q), v] ∧ H q = none ∧ H3 q = some (.lst ((tab (50 * i + 51) (spF fs ws i)).map vI)) ∧ Same H H3) ⟨p, none, rfl, h1.free ((Same.new hz).free hp), ?_, h2'⟩ ?_ ?_
    · rw [hp2]
      exact tabV_congr fun s _ => sh_one fs s
    · rintro i σ H3 N hi ⟨q, v, rfl, hq, hq3, h3⟩ hN
      walk_at "wp"
      refine ⟨q, a, _, ws, rfl, hq3, h3.sq hS, by rw [tab_len]; omega, hw, fun r H4 hr hr4 h4 => ?_⟩
      walk_at "wp"
      refine hN _ _ ⟨r, _, rfl, h3.free hr, ?_, h3.trans h4⟩
      rw [hr4, tab_len]
      rw [show 50 * i + 51 + 50 = 50 * (i + 1) + 51 by omega]
      refine tabV_congr fun s _ => ?_
      show sh _ ws s = sh (spF fs ws i) ws s
      refine sh_congr fun j _ => ?_
      rw [tab_getD]
      by_cases e : j < 50 * i + 51
      · rw [if_pos e]
      · rw [if_neg e, spF_big hf hw i j (by omega)]
    · rintro σ H3 ⟨q, v, rfl, hq, hq3, h3⟩
      walk_at "wp"
      refine k q H3 hq ?_ h3
      rw [hq3, show 50 * (n - 1) + 51 = 50 * n + 1 by omega]
      unfold spd
      rw [← hfs]
end
end My
namespace My
open PySem PySem.Spec PyProof.Rows L2
section
variable {P : Program} {w : World} {K : PySem.W.Frag} {mg : Str → Option Value} {base : Heap}
theorem ok_check_target (T : Txt mg) (F : FunAt K mg "check_target" s_check_target ["target"])  : Good P w K mg base CX0 1 "check_target" ["target"] (sp_check_target K) := by
  refine F.goodQ scx_check_target.2 bdx_check_target.2 scy_check_target (fun vs H Q E h => ?_) (fun f cdv A outer s H vs Q E hr h => ?_)
  · obtain ⟨t, rfl, h1, k⟩ := h
    rfl
  · obtain ⟨t, rfl, h1, k⟩ := h
    have hu := hu_of hr
    refine ⟨_, (qb_one (qs_if (qw_or (qt_cmpR op_lt (qv 0) qe_int (nomark _)) (qw_or1 (qt_cmpR op_gt (qv 0) (qe_gi T.c_MOST_TARGET) (nomark _)))).qt (qb_one (qs_never)) qb_nil)), ?_⟩
    walk_at "wp"
    rw [if_neg (by omega), if_neg (by omega)]
    exact k
end
end My
namespace My
open PySem PySem.Spec PyProof.Rows L2
section
variable {P : Program} {w : World} {K : PySem.W.Frag} {mg : Str → Option Value} {base : Heap}
theorem ok_check_length (T : Txt mg) (F : FunAt K mg "check_length" s_check_length ["length"])  : Good P w K mg base CX0 1 "check_length" ["length"] (sp_check_length K) := by
  refine F.goodQ scx_check_length.2 bdx_check_length.2 scy_check_length (fun vs H Q E h => ?_) (fun f cdv A outer s H vs Q E hr h => ?_)
  · obtain ⟨t, rfl, h0, h1, k⟩ := h
    rfl
  · obtain ⟨t, rfl, h0, h1, k⟩ := h
    have hu := hu_of hr
    refine ⟨_, (qb_one (qs_if (qw_or (qt_cmpR op_lt (qv 0) qe_int (nomark _)) (qw_or1 (qt_cmpR op_gt (qv 0) (qe_gi T.c_MOST_COUNTED) (nomark _)))).qt (qb_one (qs_never)) qb_nil)), ?_⟩
    walk_at "wp"
    rw [if_neg (by omega), if_neg (by omega)]
    exact k
end
end My
namespace My
open PySem PySem.Spec PyProof.Rows L2
section
variable {P : Program} {w : World} {K : PySem.W.Frag} {mg : Str → Option Value} {base : Heap}
theorem ok_check_worth (T : Txt mg) (F : FunAt K mg "check_worth" s_check_worth ["worth"])  : Good P w K mg base CX0 1 "check_worth" ["worth"] (sp_check_worth K) := by
  refine F.goodQ scx_check_worth.2 bdx_check_worth.2 scy_check_worth (fun vs H Q E h => ?_) (fun f cdv A outer s H vs Q E hr h => ?_)
  · obtain ⟨w, rfl, h1, k⟩ := h
    rfl
  · obtain ⟨w, rfl, h1, k⟩ := h
    have hu := hu_of hr
    refine ⟨_, (qb_one (qs_if (qw_or (qt_cmpR op_lt (qv 0) qe_int (nomark _)) (qw_or1 (qt_cmpR op_gt (qv 0) (qe_gi T.c_MOST_WORTH) (nomark _)))).qt (qb_one (qs_never)) qb_nil)), ?_⟩
    walk_at "wp"
    rw [if_neg (by omega), if_neg (by omega)]
    exact k
end
end My
namespace My
open PySem PySem.Spec PyProof.Rows L2
section
variable {P : Program} {w : World} {K : PySem.W.Frag} {mg : Str → Option Value} {base : Heap}
theorem ok_check_base (T : Txt mg) (F : FunAt K mg "check_base" s_check_base ["base"])  : Good P w K mg base CX0 1 "check_base" ["base"] (sp_check_base K) := by
  refine F.goodQ scx_check_base.2 bdx_check_base.2 scy_check_base (fun vs H Q E h => ?_) (fun f cdv A outer s H vs Q E hr h => ?_)
  · obtain ⟨b, rfl, h1, h2, k⟩ := h
    rfl
  · obtain ⟨b, rfl, h1, h2, k⟩ := h
    have hu := hu_of hr
    refine ⟨_, (qb_one (qs_if (qw_or (qt_cmpR op_lt (qv 0) (qe_gi T.c_LEAST_BASE) (nomark _)) (qw_or1 (qt_cmpR op_gt (qv 0) (qe_gi T.c_MOST_BASE) (nomark _)))).qt (qb_one (qs_never)) qb_nil)), ?_⟩
    walk_at "wp"
    rw [if_neg (by omega), if_neg (by omega)]
    exact k
end
end My
namespace My
open PySem PySem.Spec PyProof.Rows L2
section
variable {P : Program} {w : World} {K : PySem.W.Frag} {mg : Str → Option Value} {base : Heap}
theorem ok_check_worths (T : Txt mg) (F : FunAt K mg "check_worths" s_check_worths ["worths"]) (G_check_worth : Good P w K mg base CX0 1 "check_worth" ["worth"] (sp_check_worth K)) (G_check_base : Good P w K mg base CX0 1 "check_base" ["base"] (sp_check_base K)) : Good P w K mg base CX0 2 "check_worths" ["worths"] (sp_check_worths K) := by
  refine F.goodQ scx_check_worths.2 bdx_check_worths.2 scy_check_worths (fun vs H Q E h => ?_) (fun f cdv A outer s H vs Q E hr h => ?_)
  · obtain ⟨a, ws, rfl, hS, h1, h2, h3, k⟩ := h
    rfl
  · obtain ⟨a, ws, rfl, hS, h1, h2, h3, k⟩ := h
    have hu := hu_of hr
    refine ⟨_, (qb_cons (qs_expr (qe_callG G_check_base (hr.mono (by decide)) pass0 (qa_cons (qe_callB call_len_sq (by rfl) T.b_len PySem.boot_len (qa_cons (qv 0) qa_nil)) qa_nil)))
      (qb_one (qs_for PassesOwn.never rfl (qi_sq (qv 0)) (qg_name (i := 1) scy_check_worths.nd rfl (Or.inl rfl)) (qb_one (qs_expr (qe_callG G_check_worth (hr.mono (by decide)) pass0 (qa_cons (qv 1) qa_nil))))))), ?_⟩
    walk_at "wp"
    refine ⟨_, hS, ?_⟩
    rw [List.length_map]
    refine ⟨_, rfl, h1, h2, ?_⟩
    walk_at "wp"
    refine ForS.go hS (fun i σ H2 => ∃ v, σ = [some (.ref a), v] ∧ H2 = H) ⟨none, rfl, rfl⟩ (fun i σ H2 _ ⟨_, _, e⟩ => e ▸ Same.refl _) ?_ ?_
    · rintro i x σ H2 N hx ⟨v, rfl, rfl⟩ hN
      rw [List.getElem?_map, Option.map_eq_some_iff] at hx
      obtain ⟨d, hd, rfl⟩ := hx
      have := h3 d (List.mem_of_getElem? hd)
      walk_at "wp"
      refine ⟨d, rfl, this, ?_⟩
      exact hN _ _ ⟨_, rfl, rfl⟩
    · rintro σ H2 ⟨v, rfl, rfl⟩
      exact k
end
end My
namespace My
open PySem PySem.Spec PyProof.Rows L2
section
variable {P : Program} {w : World} {K : PySem.W.Frag} {mg : Str → Option Value} {base : Heap}
theorem ok_many_of (T : Txt mg) (F : FunAt K mg "many_of" s_many_of ["worths", "length", "target"]) (G_spread : Good P w K mg base CX0 2 "spread" ["worths", "length"] (sp_spread K)) (G_check_target : Good P w K mg base CX0 1 "check_target" ["target"] (sp_check_target K)) (G_check_length : Good P w K mg base CX0 1 "check_length" ["length"] (sp_check_length K)) (G_check_worths : Good P w K mg base CX0 2 "check_worths" ["worths"] (sp_check_worths K)) : Good P w K mg base CX0 3 "many_of" ["worths", "length", "target"] (sp_many_of K) := by
  refine F.goodQ scx_many_of.2 bdx_many_of.2 scy_many_of (fun vs H Q E h => ?_) (fun f cdv A outer s H vs Q E hr h => ?_)
  · obtain ⟨a, ws, n, t, rfl, hS, h2, h16, hw, hn1, hn2, ht, k⟩ := h
    rfl
  · obtain ⟨a, ws, n, t, rfl, hS, h2, h16, hw, hn1, hn2, ht, k⟩ := h
    have hu := hu_of hr
    refine ⟨_, (qb_cons (qs_expr (qe_callG G_check_worths (hr.mono (by decide)) pass0 (qa_cons (qv 0) qa_nil)))
      (qb_cons (qs_expr (qe_callG G_check_length (hr.mono (by decide)) pass0 (qa_cons (qv 1) qa_nil)))
      (qb_cons (qs_expr (qe_callG G_check_target (hr.mono (by decide)) pass0 (qa_cons (qv 2) qa_nil)))
      (qb_cons (qs_set (i := 3) scy_many_of.nd rfl (Or.inl rfl) (qe_callG G_spread (hr.mono (by decide)) pass0 (qa_cons (qv 0) (qa_cons (qv 1) qa_nil))))
      (qb_one (qs_ret (qe_ifExp (qt_cmpR op_lt (qv 2) (qe_callB call_len_sq (by rfl) T.b_len PySem.boot_len (qa_cons (qv 3) qa_nil)) (nomark _)) (qe_ix ix_sq (qv 3) (qv 2) (fun _ _ => rfl)) qe_int))))))), ?_⟩
    walk_at "wp"
    refine ⟨a, ws, rfl, hS, h2, h16, hw, ?_⟩
    walk_at "wp"
    refine ⟨n, rfl, hn1, hn2, ?_⟩
    walk_at "wp"
    refine ⟨t, rfl, ht, ?_⟩
    walk_at "wp"
    refine ⟨a, ws, n, rfl, hS, h2, hw, hn1, hn2, fun p H1 hp hp1 h1 => ?_⟩
    walk_at "wp"
    refine ⟨_, SqS.of hp1, ?_⟩
    rw [List.length_map, tab_len]
    have := k H1 h1
    refine ite2 (fun c => ?_) (fun c => ?_)
    · rw [if_pos (by omega)] at this
      exact ⟨_, SqS.of hp1, _, tab_at (by omega), this⟩
    · rw [if_neg (by omega)] at this
      exact this
end
end My
namespace My
open PySem PySem.Spec PyProof.Rows L2
section
variable {P : Program} {w : World} {K : PySem.W.Frag} {mg : Str → Option Value} {base : Heap}
theorem ok__law_handed (T : Txt mg) (F : FunAt K mg "_law_handed" s__law_handed ["_law_row", "_law_way"])  : Good P w K mg base CX0 1 "_law_handed" ["_law_row", "_law_way"] (sp__law_handed K) := by
  refine F.goodQ scx__law_handed.2 bdx__law_handed.2 scy__law_handed (fun vs H Q E h => ?_) (fun f cdv A outer s H vs Q E hr h => ?_)
  · obtain ⟨a, xs, i, rfl, hS, hl, k1, k2⟩ := h
    rfl
  · obtain ⟨a, xs, i, rfl, hS, hl, k1, k2⟩ := h
    have hu := hu_of hr
    refine ⟨_, (qb_cons (qs_if (qt_cmpR op_eq (qe_op op_mod (qv 1) qe_int) qe_int (nomark _)) (qb_one (qs_ret (qe_callTy call_tuple_sq (by rfl) T.b_tuple bt_tuple (qa_cons (qv 0) qa_nil)))) qb_nil)
      (qb_one (qs_ret (qe_callTy call_list_sq (by rfl) T.b_list bt_list (qa_cons (qv 0) qa_nil))))), ?_⟩
    walk_at "wp"
    refine ite2 (fun _ => ?_) (fun _ => ?_)
    · exact ⟨_, .inl ⟨SqL.of hS, fun l hl => k1 l _ hl upd_same (Same.new hl)⟩⟩
    · exact ⟨_, SqS.of hS, fun l hl => k2 l _ hl upd_same (Same.new hl)⟩
end
end My
namespace My
open PySem PySem.Spec PyProof.Rows L2
section
variable {P : Program} {w : World} {K : PySem.W.Frag} {mg : Str → Option Value} {base : Heap}
theorem ok__law_at (T : Txt mg) (F : FunAt K mg "_law_at" s__law_at ["_law_script", "_law_k"])  : Good P w K mg base CX0 1 "_law_at" ["_law_script", "_law_k"] (sp__law_at K) := by
  refine F.goodQ scx__law_at.2 bdx__law_at.2 scy__law_at (fun vs H Q E h => ?_) (fun f cdv A outer s H vs Q E hr h => ?_)
  · obtain ⟨a, ns, i, rfl, hS, k⟩ := h
    rfl
  · obtain ⟨a, ns, i, rfl, hS, k⟩ := h
    have hu := hu_of hr
    refine ⟨_, (qb_cons (qs_if (qt_cmpR op_lt (qv 1) (qe_callB call_len_sq (by rfl) T.b_len PySem.boot_len (qa_cons (qv 0) qa_nil)) (nomark _)) (qb_one (qs_ret (qe_ix ix_sq (qv 0) (qv 1) (fun _ _ => rfl)))) qb_nil)
      (qb_one (qs_ret qe_int))), ?_⟩
    walk_at "wp"
    refine ⟨_, hS, ite2 (fun c => ⟨_, hS, .int (cell ns i), atI_nat ?_, k⟩) (fun c => ?_)⟩
    · rw [List.length_map] at c
      unfold cell
      rw [List.getElem?_map, List.getD_eq_getElem?_getD, List.getElem?_eq_getElem (by omega)]
      rfl
    · rw [List.length_map] at c
      unfold cell at k
      rw [List.getD_eq_getElem?_getD, List.getElem?_eq_none (by omega)] at k
      exact k
end
end My
namespace My
open PySem PySem.Spec PyProof.Rows L2
section
variable {P : Program} {w : World} {K : PySem.W.Frag} {mg : Str → Option Value} {base : Heap}
theorem ok__law_ways (T : Txt mg) (F : FunAt K mg "_law_ways" s__law_ways ["_law_row", "_law_first", "_law_many", "_law_target"])  : Good P w K mg base CX0 1 "_law_ways" ["_law_row", "_law_first", "_law_many", "_law_target"] (sp__law_ways K) := by
  refine F.goodQ scx__law_ways.2 bdx__law_ways.2 scy__law_ways (fun vs H Q E h => ?_) (fun f cdv A outer s H vs Q E hr h => ?_)
  · obtain ⟨a, b, ws, fs, m, L, rfl, hA, hB, hL, hm, k⟩ := h
    rfl
  · obtain ⟨a, b, ws, fs, m, L, rfl, hA, hB, hL, hm, k⟩ := h
    have hu := hu_of hr
    refine ⟨_, (qb_cons (qs_set (i := 4) scy__law_ways.nd rfl (Or.inl rfl) (qe_disp1 qe_int qe_int))
      (qb_cons (qs_for PassesOwn.never rfl (qi_range1 rfl T.b_range (qa_cons (qv 2) qa_nil)) (qg_name (i := 5) scy__law_ways.nd rfl (Or.inl rfl)) (qb_cons (qs_set (i := 6) scy__law_ways.nd rfl (Or.inl rfl) qe_dnewK)
      (qb_cons (qs_for PassesOwn.never rfl (qi_key (qv 4)) (qg_name (i := 7) scy__law_ways.nd rfl (Or.inl rfl)) (qb_one (qs_for PassesOwn.never rfl (qi_sq (qe_ix ix_sq (qe_lst (qa_cons (qv 0) (qa_cons (qv 1) qa_nil))) (qe_callTy call_intQ (by rfl) T.b_int bt_int (qa_cons (qe_cmpR op_eq (qv 5) qe_int (nomark _)) qa_nil)) (fun _ _ => rfl))) (qg_name (i := 8) scy__law_ways.nd rfl (Or.inl rfl)) (qb_one (qs_if (qt_cmpR op_le (qe_op op_add (qv 7) (qv 8)) (qv 3) (nomark _)) (qb_one (qs_dput hu (qv 6) (qe_op op_add (qv 7) (qv 8)) (qe_op op_add (qe_dget2 hu (qv 6) (qe_op op_add (qv 7) (qv 8)) qe_int) (qe_dget hu (qv 4) (qv 7) (fun _ _ => rfl))) rfl)) qb_nil)))))
      (qb_one (qs_set (i := 4) scy__law_ways.nd rfl (Or.inl rfl) (qv 6))))))
      (qb_one (qs_ret (qv 4))))), ?_⟩
    walk_at "wp"
    intro p hp
    refine ⟨upd_same, [(Sum.inl 0, .int 1)], rfl, by decide, by omega, by omega, ?_⟩
    refine ForR.go (fun i σ H1 => ∃ (p : Addr) (kvs : List (Key × V)) (ks : List Nat) (v1 v2 v3 v4 : Option V), σ = [some (.ref a), some (.ref b), some (vI m), some (vI L), some (.ref p), v1, v2, v3, v4] ∧ H p = none ∧ H1 p = some (.dK kvs) ∧ WD L ks (fun t => if t ≤ L then wy fs ws i t else 0) kvs ∧ Same H H1) ⟨p, [(Sum.inl 0, .int 1)], [0], none, none, none, none, rfl, hp, by rw [upd_same]; rfl, ?_, ?_⟩ ?_ ?_
    · have e : (fun t => if t ≤ L then wy fs ws 0 t else 0) = (fun t => if t = 0 then 1 else 0) := by
        funext t
        show (if t ≤ L then (if t = 0 then 1 else 0) else 0) = _
        by_cases e1 : t = 0
        · rw [if_pos (by omega)]
        · rw [if_neg e1, ite_self]
      rw [e]
      exact WD.one
    · intro c o e
      rw [upd_ne (ne_of_none e hp), upd_ne (ne_of_none e hp)]
      exact e
    · rintro i σ H1 N hi ⟨p, kvs, ks, v1, v2, v3, v4, rfl, hp, hp1, hw, h1⟩ hN
      generalize hF : (fun t => if t ≤ L then wy fs ws i t else 0) = F at hw
      obtain ⟨us, hus⟩ : ∃ us, us = (if i = 0 then fs else ws) := ⟨_, rfl⟩
      walk_at "wp"
      intro d hd
      have hdp : d ≠ p := fun z => by rw [z, hp1] at hd; cases hd
      refine ⟨kvs, by rw [upd_ne (Ne.symm hdp)]; exact hp1, fun ob => ?_⟩
      refine ForK.go (fun j σ H2 => j ≤ ks.length ∧ ∃ (v3 v4 : Option V) (kv2 : List (Key × V)) (ks2 : List Nat), σ = [some (.ref a), some (.ref b), some (vI m), some (vI L), some (.ref p), some (.int i), some (.ref d), v3, v4] ∧ H2 p = some (.frz ob (.dK kvs)) ∧ H2 d = some (.dK kv2) ∧ WD L ks2 (gat L F us (ks.take j)) kv2 ∧ Same H H2) ⟨Nat.zero_le _, v3, v4, [], [], rfl, upd_same, by rw [upd_ne hdp, upd_same], ?_, ?_⟩ ?_ ?_ ?_
      · rw [List.take_zero]; exact WD.none
      · intro c o e
        rw [upd_ne (ne_of_none e hp), upd_ne (ne_of_none (h1 _ _ e) hd)]
        exact h1 _ _ e
      · rintro j σ H2 ⟨_, _, _, _, _, _, h, _⟩; exact h
      · rintro j kv σ H2 N2 hkv ⟨hj, v3, v4, kv2, ks2, rfl, hp2, hd2, hw2, h2⟩ hN2
        obtain ⟨t, ht1, ht2, ht3, ht4⟩ := hw.at_ hkv
        rw [ht2, show kV (Sum.inl (t : Int)) = V.int t from rfl]
        have hj2 : j < ks.length := (List.getElem?_eq_some_iff.mp ht1).1
        obtain ⟨c, hc, hcS⟩ : ∃ c, atI [V.ref a, V.ref b] (if decide ((i : Int) = 0) = true then 1 else 0) = some (.ref c) ∧ SqS K H c (us.map vI) := by
          by_cases e : i = 0
          · refine ⟨b, ?_, ?_⟩
            · rw [decide_eq_true (by omega), if_pos rfl]; rfl
            · rw [hus, if_pos e]; exact hB
          · refine ⟨a, ?_, ?_⟩
            · rw [decide_eq_false (by omega), if_neg (by decide)]; rfl
            · rw [hus, if_neg e]; exact hA
        walk_at "wp"
        refine ⟨by decide, fun z hz => ⟨_, SqS.of upd_same, _, hc, c, rfl, ?_⟩⟩
        refine ForS.base (xs := us.map vI) hcS (fun l σ H4 => l ≤ us.length ∧ ∃ (v4 : Option V) (kv3 : List (Key × V)) (ks3 : List Nat), σ = [some (.ref a), some (.ref b), some (vI m), some (vI L), some (.ref p), some (.int i), some (.ref d), some (.int t), v4] ∧ H4 p = some (.frz ob (.dK kvs)) ∧ H4 d = some (.dK kv3) ∧ WD L ks3 (fun s => gat L F us (ks.take j) s + inn L F (us.take l) t s) kv3 ∧ Same H H4) ⟨Nat.zero_le _, v4, kv2, ks2, rfl, (Same.new hz) _ _ hp2, (Same.new hz) _ _ hd2, ?_, h2.trans (Same.new hz)⟩ ?_ ?_ ?_
        · rw [List.take_zero]
          exact hw2
        · rintro l σ H4 _ ⟨_, _, _, _, _, _, _, _, h4⟩; exact h4
        · rintro l x σ H4 N3 hx ⟨hl, v4, kv3, ks3, rfl, hp4, hd4, hw4, h4⟩ hN3
          rw [List.getElem?_map, Option.map_eq_some_iff] at hx
          obtain ⟨w, hw', rfl⟩ := hx
          have hl2 : l < us.length := (List.getElem?_eq_some_iff.mp hw').1
          walk_at "wp"
          rw [show (t : Int) + (w : Int) = ((t + w : Nat) : Int) by omega]
          refine ite2 (fun e => ?_) (fun e => ?_)
          · refine ⟨.inl ⟨_, .inl hd4⟩, _, DGet.k (k := Sum.inl ((t + w : Nat) : Int)) hd4, ?_⟩
            rw [hw4.getD]
            refine ⟨_, .inl ⟨kvs, Sum.inl (t : Int), .inr ⟨ob, hp4⟩, rfl, ht4.symm⟩, ?_⟩
            walk_at "wp"
            refine ⟨_, DPut.k (k := Sum.inl ((t + w : Nat) : Int)) hd4 (small_line (by have := hw4.len; omega)), ?_⟩
            rw [show V.int (((gat L F us (ks.take j) (t + w) + inn L F (us.take l) t (t + w) : Nat) : Int) + (F t : Int)) = vI (gat L F us (ks.take j) (t + w) + inn L F (us.take l) t (t + w) + F t) from rfl]
            obtain ⟨ks4, hw5⟩ := hw4.put (s := t + w) (n := gat L F us (ks.take j) (t + w) + inn L F (us.take l) t (t + w) + F t) (by omega)
            refine hN3 _ _ ⟨by omega, _, _, ks4, rfl, by rw [upd_ne (Ne.symm hdp)]; exact hp4, upd_same, ?_, fun c o e => ?_⟩
            · have e2 : (fun s => gat L F us (ks.take j) s + inn L F (us.take (l + 1)) t s) = (fun s => if s = t + w then gat L F us (ks.take j) (t + w) + inn L F (us.take l) t (t + w) + F t else gat L F us (ks.take j) s + inn L F (us.take l) t s) := by
                funext s
                rw [inn_take hw']
                by_cases e3 : s = t + w
                · rw [if_pos e3, if_pos (by omega), e3]; omega
                · rw [if_neg e3, if_neg (by omega)]; rfl
              rw [e2]; exact hw5
            · rw [upd_ne (ne_of_none e (h1.free hd))]; exact h4 _ _ e
          · refine hN3 _ _ ⟨by omega, _, kv3, ks3, rfl, hp4, hd4, ?_, h4⟩
            have e2 : (fun s => gat L F us (ks.take j) s + inn L F (us.take (l + 1)) t s) = (fun s => gat L F us (ks.take j) s + inn L F (us.take l) t s) := by
              funext s
              rw [inn_take hw', if_neg (by omega)]; rfl
            rw [e2]; exact hw4
        · rintro σ H4 ⟨_, v4, kv3, ks3, rfl, hp4, hd4, hw4, h4⟩
          refine hN2 _ _ ⟨by omega, _, _, kv3, ks3, rfl, hp4, hd4, ?_, h4⟩
          have e2 : gat L F us (ks.take (j + 1)) = (fun s => gat L F us (ks.take j) s + inn L F (us.take us.length) t s) := by
            funext s
            rw [gat_take ht1, List.take_of_length_le (Nat.le_refl _)]
          rw [List.length_map] at hw4
          rw [e2]; exact hw4
      · rintro σ H2 ⟨_, v3, v4, kv2, ks2, rfl, hp2, hd2, hw2, h2⟩
        walk_at "wp"
        refine hN _ _ ⟨d, kv2, ks2, _, _, _, _, rfl, h1.free hd, hd2, ?_, h2⟩
        rw [hw.length, List.take_of_length_le (Nat.le_refl _)] at hw2
        have e2 : (fun t => if t ≤ L then wy fs ws (i + 1) t else 0) = gat L F us ks := by
          funext s
          rw [gat_sh hw]
          by_cases e : s ≤ L
          · rw [if_pos e, if_pos e]
            show sh (wy fs ws i) (if i = 0 then fs else ws) s = _
            rw [← hus]
            refine sh_congr fun x hx => ?_
            rw [← hF]
            show _ = (if x ≤ L then wy fs ws i x else 0)
            rw [if_pos (by omega)]
          · rw [if_neg e, if_neg e]
        rw [e2]; exact hw2
    · rintro σ H1 ⟨p, kvs, ks, v1, v2, v3, v4, rfl, hp, hp1, hw, h1⟩
      walk_at "wp"
      exact k p H1 ks kvs hp hp1 hw h1
end
end My
namespace My
open PySem PySem.Spec PyProof.Rows L2
section
variable {P : Program} {w : World} {K : PySem.W.Frag} {mg : Str → Option Value} {base : Heap}
theorem ok__law_mixed (T : Txt mg) (F : FunAt K mg "_law_mixed" s__law_mixed ["_law_cell", "_law_place"])  : Good P w K mg base CX0 1 "_law_mixed" ["_law_cell", "_law_place"] (sp__law_mixed K) := by
  refine F.goodQ scx__law_mixed.2 bdx__law_mixed.2 scy__law_mixed (fun vs H Q E h => ?_) (fun f cdv A outer s H vs Q E hr h => ?_)
  · obtain ⟨c, p, rfl, k⟩ := h
    rfl
  · obtain ⟨c, p, rfl, k⟩ := h
    have hu := hu_of hr
    refine ⟨_, (qb_cons (qs_set (i := 2) scy__law_mixed.nd rfl (Or.inl rfl) (qe_op op_mod (qe_op op_mul (qe_op op_add (qe_op op_add (qe_op op_mod (qv 0) qe_int) (qe_op op_mul qe_int (qv 1))) qe_int) qe_int) qe_int))
      (qb_one (qs_ret (qe_op op_mod (qe_op op_mul (qe_op op_add (qv 2) (qe_op op_mul qe_int (qv 1))) qe_int) qe_int)))), ?_⟩
    walk_at "wp"
    exact ⟨.inl ⟨by decide, by decide⟩, .inr ⟨by decide, by decide⟩, .inl ⟨by decide, by decide⟩, .inr ⟨by decide, by decide⟩, k⟩
end
end My
namespace My
open PySem PySem.Spec PyProof.Rows L2
section
variable {P : Program} {w : World} {K : PySem.W.Frag} {mg : Str → Option Value} {base : Heap}
theorem ok__law_book (T : Txt mg) (F : FunAt K mg "_law_book" s__law_book ["_law_script", "_law_k"]) (G__law_mixed : Good P w K mg base CX0 1 "_law_mixed" ["_law_cell", "_law_place"] (sp__law_mixed K)) (G__law_at : Good P w K mg base CX0 1 "_law_at" ["_law_script", "_law_k"] (sp__law_at K)) : Good P w K mg base CX0 2 "_law_book" ["_law_script", "_law_k"] (sp__law_book K) := by
  refine F.goodQ scx__law_book.2 bdx__law_book.2 scy__law_book (fun vs H Q E h => ?_) (fun f cdv A outer s H vs Q E hr h => ?_)
  · obtain ⟨a, ns, j, rfl, hS, k⟩ := h
    rfl
  · obtain ⟨a, ns, j, rfl, hS, k⟩ := h
    have hu := hu_of hr
    refine ⟨_, (qb_cons (qs_set (i := 2) scy__law_book.nd rfl (Or.inl rfl) (qe_op op_add qe_int (qe_op op_mod (qe_callG G__law_at (hr.mono (by decide)) pass0 (qa_cons (qv 0) (qa_cons (qv 1) qa_nil))) qe_int)))
      (qb_cons (qs_set (i := 3) scy__law_book.nd rfl (Or.inl rfl) (qe_callG G__law_at (hr.mono (by decide)) pass0 (qa_cons (qv 0) (qa_cons (qe_op op_add (qv 1) qe_int) qa_nil))))
      (qb_cons (qs_set (i := 4) scy__law_book.nd rfl (Or.inl rfl) (qe_callG G__law_at (hr.mono (by decide)) pass0 (qa_cons (qv 0) (qa_cons (qe_op op_add (qv 1) qe_int) qa_nil))))
      (qb_cons (qs_set (i := 5) scy__law_book.nd rfl (Or.inl rfl) (qe_ix ix_sq (qe_lst (qa_ints rfl)) (qe_op op_mod (qv 3) qe_int) (fun _ _ => rfl)))
      (qb_cons (qs_set (i := 6) scy__law_book.nd rfl (Or.inl rfl) (qe_lst qa_nil))
      (qb_cons (qs_for PassesOwn.never rfl (qi_range1 rfl T.b_range (qa_cons (qv 2) qa_nil)) (qg_name (i := 7) scy__law_book.nd rfl (Or.inl rfl)) (qb_one (qs_if (qt_cmpR op_lt (qe_op op_mod (qv 3) qe_int) qe_int (nomark _)) (qb_cons (qs_expr (qe_bm (K := K) rfl PySem.F.plainAttrs_list PySem.F.slot_list_append PySem.F.type_list_append mt_append (qv 6) (qa_cons (qe_op op_mod (qe_op op_add (qv 4) (qe_callG G__law_mixed (hr.mono (by decide)) pass0 (qa_cons (qv 3) (qa_cons (qv 7) qa_nil)))) (qe_op op_add (qv 5) qe_int)) qa_nil)))
      (qb_one (qs_set (i := 4) scy__law_book.nd rfl (Or.inl rfl) (qe_op op_fdivL (qv 4) (qe_op op_add (qv 5) qe_int))))) (qb_one (qs_if (qt_cmpR op_eq (qe_op op_mod (qv 3) qe_int) qe_int (nomark _)) (qb_one (qs_expr (qe_bm (K := K) rfl PySem.F.plainAttrs_list PySem.F.slot_list_append PySem.F.type_list_append mt_append (qv 6) (qa_cons (qe_callB (call_min2Q rfl) (by rfl) T.b_min bt_min (qa_cons (qe_ix ix_sq (qe_lst (qa_cons (qv 7) (qa_cons (qe_op op_mul (qv 7) (qv 7)) qa_nil))) (qe_op op_mod (qe_op op_fdivL (qv 3) qe_int) qe_int) (fun _ _ => rfl)) (qa_cons qe_int qa_nil))) qa_nil)))) (qb_one (qs_if (qt_cmpR op_eq (qe_op op_mod (qv 3) qe_int) qe_int (nomark _)) (qb_one (qs_expr (qe_bm (K := K) rfl PySem.F.plainAttrs_list PySem.F.slot_list_append PySem.F.type_list_append mt_append (qv 6) (qa_cons (qe_op op_mul (qe_callTy call_intQ (by rfl) T.b_int bt_int (qa_cons (qe_cmpR op_eq (qv 7) (qe_op op_mod (qv 4) (qv 2)) (nomark _)) qa_nil)) (qe_op op_add qe_int (qe_op op_mod (qe_op op_fdivL (qv 4) (qv 2)) qe_int))) qa_nil)))) (qb_one (qs_expr (qe_bm (K := K) rfl PySem.F.plainAttrs_list PySem.F.slot_list_append PySem.F.type_list_append mt_append (qv 6) (qa_cons (qe_op op_mod (qv 4) qe_int) qa_nil)))))))))))
      (qb_one (qs_ret (qv 6))))))))), ?_⟩
    walk_at "wp"
    refine ⟨a, ns, j, rfl, hS, ?_⟩
    walk_at "wp"
    refine ⟨a, ns, j + 1, rfl, hS, ?_⟩
    walk_at "wp"
    refine ⟨a, ns, j + 2, rfl, hS, ?_⟩
    walk_at "wp"
    obtain ⟨b0, hb0, hb1⟩ := emod_nat (x := cell ns j) (m := 15) (by decide)
    generalize hway : cell ns (j + 1) = way
    generalize hc : cell ns (j + 2) = c
    obtain ⟨b, hb⟩ : ∃ b : Nat, 2 + cell ns j % 15 = (b : Int) := ⟨2 + b0, by omega⟩
    rw [hb]
    have hb2 : 2 ≤ b := by omega
    have hb16 : b ≤ 16 := by omega
    refine ⟨by decide, fun p0 hp0 => ?_⟩
    obtain ⟨r, hr0, hr1⟩ := emod_nat (x := way) (m := 8) (by decide)
    rw [show ((8 : Nat) : Int) = 8 from rfl] at hr0
    rw [hr0]
    obtain ⟨mo, hmo, hm1, hm2⟩ : ∃ mo : Nat, atI [V.int 50, V.int 50, V.int 50, V.int 9, V.int 2, V.int 50, V.int 50, V.int 50] (r : Int) = some (vI mo) ∧ 0 < mo ∧ mo ≤ 50 := by
      have : r = 0 ∨ r = 1 ∨ r = 2 ∨ r = 3 ∨ r = 4 ∨ r = 5 ∨ r = 6 ∨ r = 7 := by omega
      rcases this with rfl | rfl | rfl | rfl | rfl | rfl | rfl | rfl
      · exact ⟨50, rfl, by decide, by decide⟩
      · exact ⟨50, rfl, by decide, by decide⟩
      · exact ⟨50, rfl, by decide, by decide⟩
      · exact ⟨9, rfl, by decide, by decide⟩
      · exact ⟨2, rfl, by decide, by decide⟩
      · exact ⟨50, rfl, by decide, by decide⟩
      · exact ⟨50, rfl, by decide, by decide⟩
      · exact ⟨50, rfl, by decide, by decide⟩
    refine ⟨_, SqS.of upd_same, _, hmo, by decide, fun p hp => ?_⟩
    have hp' : H p = none := (Same.new hp0).free hp
    refine ⟨by omega, by omega, ForR.go (fun i σ H2 => ∃ (c : Int) (ws : List Nat) (v : Option V), σ = [some (.ref a), some (vI j), some (vI b), some (.int way), some (.int c), some (vI mo), some (.ref p), v] ∧ H2 p = some (.lst (ws.map vI)) ∧ ws.length = i ∧ (∀ x ∈ ws, x ≤ 50) ∧ Same H H2) ⟨c, [], none, rfl, upd_same, rfl, by simp, (Same.new hp0).trans (Same.new hp)⟩ ?_ ?_⟩
    · rintro i σ H2 N hi ⟨c, ws, v, rfl, hp2, hl, hw, hs⟩ hN
      have fin : ∀ (x : Nat) (c' : Int) (H3 : Hp), x ≤ 50 → H3 p = some (.lst (ws.map vI)) → Same H H3 → N [some (.ref a), some (vI j), some (vI b), some (.int way), some (.int c'), some (vI mo), some (.ref p), some (.int i)] (upd H3 p (.lst (ws.map vI ++ [vI x]))) := fun x c' H3 hx h3 hs3 => by
        refine hN _ _ ⟨c', ws ++ [x], _, rfl, by rw [upd_same, List.map_append]; rfl, by simp [hl], fun y hy => ?_, fun q o e => ?_⟩
        · rcases List.mem_append.mp hy with z | z
          · exact hw y z
          · rw [List.mem_singleton.mp z]; exact hx
        · rw [upd_ne (ne_of_none e hp')]; exact hs3 _ _ e
      have hlen : (ws.map vI).length < sizeLine := by rw [List.length_map]; exact small_line (by omega)
      walk_at "wp"
      rw [hr0]
      refine ite2 (fun e => ?_) (fun e => ite2 (fun e => ?_) (fun e => ite2 (fun e => ?_) (fun e => ?_)))
      · refine ⟨⟨_, SqL.of hp2⟩, way, i, rfl, ?_⟩
        walk_at "wp"
        obtain ⟨x, hx, hx1⟩ := emod_nat (x := c + mixed way (i : Int)) (m := mo + 1) (by omega)
        rw [show ((mo : Int) + 1) = ((mo + 1 : Nat) : Int) from rfl, hx]
        refine ⟨by omega, _, hp2, hlen, cdiv_of (by omega) (by omega), fin x _ H2 (by omega) hp2 hs⟩
      · refine ⟨⟨_, SqL.of hp2⟩, .inl ⟨by omega, by omega⟩, by decide, fun q hq => ⟨cdiv_of (by decide) (by decide), ?_⟩⟩
        obtain ⟨x, hx, hx1⟩ := emod_nat (x := way / 8) (m := 2) (by decide)
        rw [show ((2 : Nat) : Int) = 2 from rfl] at hx
        rw [hx]
        have h3 : upd H2 q (.lst [.int i, .int ((i : Int) * i)]) p = some (.lst (ws.map vI)) := by rw [upd_ne (ne_of_none hp2 hq)]; exact hp2
        have hs3 : Same H (upd H2 q (.lst [.int i, .int ((i : Int) * i)])) := hs.trans (Same.new hq)
        obtain ⟨y, hy⟩ : ∃ y : Nat, atI [V.int (i : Int), V.int ((i : Int) * i)] (x : Int) = some (vI y) := by
          have : x = 0 ∨ x = 1 := by omega
          rcases this with rfl | rfl
          · exact ⟨i, rfl⟩
          · exact ⟨i * i, rfl⟩
        refine ⟨_, SqS.of upd_same, _, hy, ?_⟩
        walk_at "wp"
        refine ⟨_, h3, hlen, ?_⟩
        have e2 : (V.int (if 50 < (y : Int) then 50 else (y : Int))) = vI (if 50 < y then 50 else y) := by
          rw [vI]; congr 1; split <;> split <;> omega
        rw [e2]
        exact fin _ _ _ (by split <;> omega) h3 hs3
      · refine ⟨⟨_, SqL.of hp2⟩, by omega, cdiv_of (by omega) (by omega), ?_⟩
        obtain ⟨x, hx, hx1⟩ := emod_nat (x := c / (b : Int)) (m := 50) (by decide)
        rw [show ((50 : Nat) : Int) = 50 from rfl] at hx
        rw [hx]
        by_cases hz : (i : Int) = c % (b : Int)
        · rw [decide_eq_true hz]
          walk_at "wp"
          refine ⟨.inl ⟨by decide, by decide⟩, _, hp2, hlen, ?_⟩
          rw [show (V.int (1 * (1 + (x : Int)))) = vI (1 + x) by rw [vI]; congr 1; omega]
          exact fin _ _ _ (by omega) hp2 hs
        · rw [decide_eq_false hz]
          walk_at "wp"
          refine ⟨.inl ⟨by decide, by decide⟩, _, hp2, hlen, ?_⟩
          rw [show (V.int ((if false = true then (1 : Int) else 0) * (1 + (x : Int)))) = vI 0 by rw [if_neg Bool.false_ne_true, Int.zero_mul]; rfl]
          exact fin _ _ _ (by omega) hp2 hs
      · refine ⟨⟨_, SqL.of hp2⟩, _, hp2, hlen, ?_⟩
        obtain ⟨x, hx, hx1⟩ := emod_nat (x := c) (m := 51) (by decide)
        rw [show ((51 : Nat) : Int) = 51 from rfl] at hx
        rw [hx]
        exact fin x _ _ (by omega) hp2 hs
    · rintro σ H2 ⟨c, ws, v, rfl, hp2, hl, hw, hs⟩
      walk_at "wp"
      exact k ws p H2 (by omega) (by omega) hw hp' hp2 hs
end
end My
namespace My
open PySem PySem.Spec PyProof.Rows L2
section
variable {P : Program} {w : World} {K : PySem.W.Frag} {mg : Str → Option Value} {base : Heap}
theorem fn_law {f : Addr} {fd : FuncData} (T : Txt mg) (F : Fun K "law" "law" s_law f fd) (G__law_same : Good P w K mg base CX0 2 "_law_same" ["_law_handed_here", "_law_row"] (sp__law_same K)) (G__law_whole : Good P w K mg base CX0 1 "_law_whole" ["_law_found"] (sp__law_whole K)) (G_many_of : Good P w K mg base CX0 3 "many_of" ["worths", "length", "target"] (sp_many_of K)) (G__law_handed : Good P w K mg base CX0 1 "_law_handed" ["_law_row", "_law_way"] (sp__law_handed K)) (G__law_at : Good P w K mg base CX0 1 "_law_at" ["_law_script", "_law_k"] (sp__law_at K)) (G__law_ways : Good P w K mg base CX0 1 "_law_ways" ["_law_row", "_law_first", "_law_many", "_law_target"] (sp__law_ways K)) (G__law_mixed : Good P w K mg base CX0 1 "_law_mixed" ["_law_cell", "_law_place"] (sp__law_mixed K)) (G__law_book : Good P w K mg base CX0 2 "_law_book" ["_law_script", "_law_k"] (sp__law_book K)) : FnOk P w K mg base CX0 4 f fd ["_law_script"] (sp_law K) := by
  refine F.okQ scx_law.2 bdx_law.2 scy_law (fun vs H Q E h => ?_) (fun cdv A outer s H vs Q E hr h => ?_)
  · obtain ⟨a, ns, rfl, hS0, hlen, k⟩ := h
    rfl
  · obtain ⟨a, ns, rfl, hS0, hlen, k⟩ := h
    have hu := hu_of hr
    refine ⟨_, (qb_cons (qs_set (i := 1) scy_law.nd rfl (Or.inl rfl) (qe_callG G__law_book (hr.mono (by decide)) pass0 (qa_cons (qv 0) (qa_cons qe_int qa_nil))))
      (qb_cons (qs_set (i := 2) scy_law.nd rfl (Or.inl rfl) (qe_op op_add qe_int (qe_op op_mod (qe_callG G__law_at (hr.mono (by decide)) pass0 (qa_cons (qv 0) (qa_cons qe_int qa_nil))) qe_int)))
      (qb_cons (qs_set (i := 3) scy_law.nd rfl (Or.inl rfl) (qe_op op_add qe_int (qe_op op_mod (qe_callG G__law_at (hr.mono (by decide)) pass0 (qa_cons (qv 0) (qa_cons qe_int qa_nil))) (qv 2))))
      (qb_cons (qs_set (i := 4) scy_law.nd rfl (Or.inl rfl) (qe_callG G__law_at (hr.mono (by decide)) pass0 (qa_cons (qv 0) (qa_cons qe_int qa_nil))))
      (qb_cons (qs_set (i := 5) scy_law.nd rfl (Or.inl rfl) (qe_op op_mod (qv 4) qe_int))
      (qb_cons (qs_if (qt_cmpR op_gt (qe_op op_mod (qe_callG G__law_at (hr.mono (by decide)) pass0 (qa_cons (qv 0) (qa_cons qe_int qa_nil))) qe_int) qe_int (nomark _)) (qb_cons (qs_set (i := 5) scy_law.nd rfl (Or.inl rfl) (qe_ix ix_sq (qv 1) qe_int (fun _ _ => rfl)))
      (qb_one (qs_for PassesOwn.never rfl (qi_range2 rfl T.b_range (qa_cons qe_int (qa_cons (qv 2) qa_nil))) (qg_name (i := 6) scy_law.nd rfl (Or.inl rfl)) (qb_cons (qs_set (i := 5) scy_law.nd rfl (Or.inl rfl) (qe_op op_add (qv 5) (qe_ix ix_sq (qv 1) (qe_op op_mod (qe_op op_add (qv 4) (qe_callG G__law_mixed (hr.mono (by decide)) pass0 (qa_cons (qv 2) (qa_cons (qv 6) qa_nil)))) (qe_callB call_len_sq (by rfl) T.b_len PySem.boot_len (qa_cons (qv 1) qa_nil))) (fun _ _ => rfl))))
      (qb_one (qs_set (i := 4) scy_law.nd rfl (Or.inl rfl) (qe_op op_fdivL (qv 4) (qe_callB call_len_sq (by rfl) T.b_len PySem.boot_len (qa_cons (qv 1) qa_nil))))))))) qb_nil)
      (qb_cons (qs_set (i := 7) scy_law.nd rfl (Or.inl rfl) (qe_ix ix_sq (qe_lst (qa_cons (qe_slice sl_sq (qv 1) (qo_some qe_int) qo_none) (qa_cons (qv 1) qa_nil))) (qe_callTy call_intQ (by rfl) T.b_int bt_int (qa_cons (qe_cmpR op_eq (qv 2) qe_int (nomark _)) qa_nil)) (fun _ _ => rfl)))
      (qb_cons (qs_set (i := 8) scy_law.nd rfl (Or.inl rfl) (qe_callG G__law_ways (hr.mono (by decide)) pass0 (qa_cons (qv 1) (qa_cons (qv 7) (qa_cons (qv 3) (qa_cons (qv 5) qa_nil))))))
      (qb_cons (qs_set (i := 9) scy_law.nd rfl (Or.inl rfl) (qe_callG G__law_ways (hr.mono (by decide)) pass0 (qa_cons (qv 1) (qa_cons (qv 1) (qa_cons (qe_op op_sub (qv 2) (qv 3)) (qa_cons (qv 5) qa_nil))))))
      (qb_cons (qs_set (i := 10) scy_law.nd rfl (Or.inl rfl) qe_int)
      (qb_cons (qs_for PassesOwn.never rfl (qi_key (qv 8)) (qg_name (i := 11) scy_law.nd rfl (Or.inl rfl)) (qb_one (qs_set (i := 10) scy_law.nd rfl (Or.inl rfl) (qe_op op_add (qv 10) (qe_op op_mul (qe_dget hu (qv 8) (qv 11) (fun _ _ => rfl)) (qe_dget2 hu (qv 9) (qe_op op_sub (qv 5) (qv 11)) qe_int))))))
      (qb_cons (qs_set (i := 12) scy_law.nd rfl (Or.inl rfl) (qe_callG G__law_handed (hr.mono (by decide)) pass0 (qa_cons (qv 1) (qa_cons (qe_callG G__law_at (hr.mono (by decide)) pass0 (qa_cons (qv 0) (qa_cons qe_int qa_nil))) qa_nil))))
      (qb_cons (qs_set (i := 13) scy_law.nd rfl (Or.inl rfl) (qe_callG G_many_of (hr.mono (by decide)) pass0 (qa_cons (qv 12) (qa_cons (qv 2) (qa_cons (qv 5) qa_nil)))))
      (qb_one (qs_ret (qe_and (qe_callG G__law_whole (hr.mono (by decide)) pass0 (qa_cons (qv 13) qa_nil)) (qe_and (qe_cmpR op_eq (qv 13) (qv 10) (nomark _)) (qe_one (qe_callG G__law_same (hr.mono (by decide)) pass0 (qa_cons (qv 12) (qa_cons (qv 1) qa_nil))))))))))))))))))))), ?_⟩
    have hS : SqS K H a (ns.map V.int) := .inl hS0
    refine seq_R3 (fun σ H1 => ∃ (p : Addr) (ws : List Nat) (n m : Nat), 2 ≤ ws.length ∧ ws.length ≤ 16 ∧ (∀ x ∈ ws, x ≤ 50) ∧ H p = none ∧ H1 p = some (.lst (ws.map vI)) ∧ Same H H1 ∧ 1 ≤ n ∧ n ≤ 20 ∧ 1 ≤ m ∧ m ≤ n ∧ σ = [some (.ref a), some (.ref p), some (vI n), some (vI m), none, none, none, none, none, none, none, none, none, none]) (fun N hN => ?_) ?_
    · walk_at "wp"
      refine ⟨a, ns, 0, rfl, hS, fun ws p H1 hw2 hw16 hw hp hp1 hs1 => ?_⟩
      have hS1 := hs1.sq hS
      walk_at "wp"
      refine ⟨a, ns, 3, rfl, hS1, ?_⟩
      walk_at "wp"
      obtain ⟨n0, hn0, hn1⟩ := emod_nat (x := cell ns 3) (m := 20) (by decide)
      rw [show ((20 : Nat) : Int) = 20 from rfl] at hn0
      rw [hn0, show (1 : Int) + (n0 : Int) = ((n0 + 1 : Nat) : Int) by omega]
      generalize hnn : n0 + 1 = n
      refine ⟨a, ns, 4, rfl, hS1, ?_⟩
      walk_at "wp"
      obtain ⟨m0, hm0, hm1⟩ := emod_nat (x := cell ns 4) (m := n) (by omega)
      rw [hm0, show (1 : Int) + (m0 : Int) = ((m0 + 1 : Nat) : Int) by omega]
      exact ⟨by omega, hN _ _ ⟨p, ws, n, m0 + 1, hw2, hw16, hw, hp, hp1, hs1, by omega, by omega, by omega, by omega, rfl⟩⟩
    rintro σ H1 ⟨p, ws, n, m, hw2, hw16, hw, hp, hp1, hs1, hn1, hn20, hm1, hmn, rfl⟩
    have hS1 := hs1.sq hS
    dsimp only
    refine seq_R3 (fun σ H5 => ∃ (t : Nat) (c : Int) (v : Option V), t ≤ 1000 ∧ σ = [some (.ref a), some (.ref p), some (vI n), some (vI m), some (.int c), some (vI t), v, none, none, none, none, none, none, none] ∧ H5 = H1) (fun N hN => ?_) ?_
    · walk_at "wp"
      refine ⟨a, ns, 6, rfl, hS1, ?_⟩
      walk_at "wp"
      generalize cell ns 6 = c
      refine ⟨a, ns, 5, rfl, hS1, ?_⟩
      walk_at "wp"
      obtain ⟨r, hr, hr1⟩ := emod_nat (x := c) (m := 1001) (by decide)
      rw [show ((1001 : Nat) : Int) = 1001 from rfl] at hr
      rw [hr]
      refine ite2 (fun e => ?_) (fun e => ?_)
      · obtain ⟨y, hy, hy'⟩ : ∃ y : Nat, ws[1]? = some y ∧ y ≤ 50 := ⟨ws[1], by simp, hw _ (by simp)⟩
        refine ⟨_, SqS.of hp1, vI y, atI_nat (j := 1) (by rw [List.getElem?_map, hy]; rfl), ⟨by omega, by omega⟩, ?_⟩
        rw [show ((n : Int) - 1).toNat = n - 1 by omega]
        refine ForR.go (fun i σ H2 => ∃ (t : Nat) (c : Int) (v : Option V), t ≤ 50 * (i + 1) ∧ σ = [some (.ref a), some (.ref p), some (vI n), some (vI m), some (.int c), some (vI t), v, none, none, none, none, none, none, none] ∧ H2 = H1) ⟨y, c, none, by omega, rfl, rfl⟩ ?_ ?_
        · rintro i σ H2 N2 hi ⟨t, c, v, ht, rfl, rfl⟩ hN2
          walk_at "wp"
          refine ⟨_, _, rfl, ?_⟩
          walk_at "wp"
          refine ⟨_, SqS.of hp1, ?_⟩
          rw [List.length_map]
          generalize mixed (n : Int) (1 + (i : Int)) = mm
          obtain ⟨x, hx, hx1⟩ := emod_nat (x := c + mm) (m := ws.length) (by omega)
          rw [hx]
          refine ⟨by omega, _, SqS.of hp1, vI ws[x], atI_nat (by rw [List.getElem?_map, List.getElem?_eq_getElem hx1]; rfl), ?_⟩
          have hwx := hw ws[x] (List.getElem_mem hx1)
          walk_at "wp"
          refine ⟨_, SqS.of hp1, ?_⟩
          rw [List.length_map]
          exact ⟨cdiv_of (by omega) (by omega), hN2 _ _ ⟨t + ws[x], _, _, by omega, rfl, rfl⟩⟩
        · rintro σ H2 ⟨t, c, v, ht, rfl, rfl⟩
          exact hN _ _ ⟨t, c, v, by omega, rfl, rfl⟩
      · exact hN _ _ ⟨r, c, _, by omega, rfl, rfl⟩
    rintro σ H5 ⟨t, c, v, ht, rfl, rfl⟩
    walk_at "wq"
    refine ⟨_, SqL.of hp1, fun z hz => ⟨by decide, fun z2 hz2 => ⟨_, SqS.of upd_same, ?_⟩⟩⟩
    rw [show (1 : Int) = ((1 : Nat) : Int) from rfl, cut_from (by rw [List.length_map]; omega)] at hz2
    rw [show some (1 : Int) = some ((1 : Nat) : Int) from rfl, cut_from (by rw [List.length_map]; omega)]
    rw [show ((n : Int) - (m : Int)) = ((n - m : Nat) : Int) by omega]
    obtain ⟨fs, hfs⟩ : ∃ fs, fs = (if n = 1 then ws else ws.tail) := ⟨_, rfl⟩
    have hf16 : fs.length ≤ 16 := by
      rw [hfs]
      split
      · exact hw16
      · rw [List.length_tail]; omega
    have h6 : Same H5 (upd (upd H5 z (.lst (List.drop 1 (ws.map vI)))) z2 (.lst [.ref z, .ref p])) := (Same.new hz).trans (Same.new hz2)
    obtain ⟨b, hb, hbS⟩ : ∃ b, atI [V.ref z, V.ref p] (if decide ((n : Int) = 1) = true then 1 else 0) = some (.ref b) ∧ SqS K (upd (upd H5 z (.lst (List.drop 1 (ws.map vI)))) z2 (.lst [.ref z, .ref p])) b (fs.map vI) := by
      by_cases e : n = 1
      · refine ⟨p, ?_, ?_⟩
        · rw [decide_eq_true (by omega), if_pos rfl]; rfl
        · rw [hfs, if_pos e]; exact SqS.of (h6 _ _ hp1)
      · refine ⟨z, ?_, ?_⟩
        · rw [decide_eq_false (by omega), if_neg (by decide)]; rfl
        · rw [hfs, if_neg e, List.map_tail, ← List.drop_one]
          exact SqS.of ((Same.new hz2) _ _ upd_same)
    generalize upd (upd H5 z (.lst (List.drop 1 (ws.map vI)))) z2 (.lst [.ref z, .ref p]) = H6 at h6 hbS
    refine ⟨_, hb, p, b, ws, fs, m, t, rfl, SqS.of (h6 _ _ hp1), hbS, ht, by omega, fun q H7 ks1 kv1 hq hq7 hd1 h7 => ?_⟩
    refine ⟨p, p, ws, ws, n - m, t, rfl, SqS.of (h7 _ _ (h6 _ _ hp1)), SqS.of (h7 _ _ (h6 _ _ hp1)), ht, by omega, fun q2 H8 ks2 kv2 hq2 hq28 hd2 h8 => ?_⟩
    have hqq : q2 ≠ q := fun z => by rw [z, hq7] at hq2; cases hq2
    have hp8 := h8 _ _ (h7 _ _ (h6 _ _ hp1))
    have hpq : p ≠ q := fun z => by rw [← z, h6 _ _ hp1] at hq; cases hq
    walk_at "wq"
    refine ⟨kv1, h8 _ _ hq7, fun ob => ?_⟩
    have hS8 : Same H5 (upd H8 q (.frz ob (.dK kv1))) := fun c o e => by
      rw [upd_ne (ne_of_none e (h6.free hq))]
      exact h8 _ _ (h7 _ _ (h6 _ _ e))
    have hq9 : upd H8 q (.frz ob (.dK kv1)) q = some (.frz ob (.dK kv1)) := upd_same
    have hq29 : upd H8 q (.frz ob (.dK kv1)) q2 = some (.dK kv2) := by rw [upd_ne hqq]; exact hq28
    generalize upd H8 q (.frz ob (.dK kv1)) = H9 at hS8 hq9 hq29
    refine ForK.go (fun j σ H10 => ∃ v11, σ = [some (.ref a), some (.ref p), some (vI n), some (vI m), some (.int c), some (vI t), v, some (.ref b), some (.ref q), some (.ref q2), some (vI ((ks1.take j).map fun x => (if x ≤ t then wy fs ws m x else 0) * (if t - x ≤ t then wy ws ws (n - m) (t - x) else 0)).sum), v11, none, none] ∧ H10 = H9) ⟨none, rfl, rfl⟩ ?_ ?_ ?_
    · rintro j σ H10 ⟨_, _, rfl⟩; exact hq9
    · rintro j kv σ H10 N hkv ⟨v11, rfl, rfl⟩ hN
      obtain ⟨x, hx1, hx2, hx3, hx4⟩ := hd1.at_ hkv
      rw [hx2, show kV (Sum.inl (x : Int)) = V.int x from rfl]
      walk_at "wq"
      rw [show (t : Int) - (x : Int) = ((t - x : Nat) : Int) by omega]
      refine ⟨_, .inl ⟨kv1, Sum.inl (x : Int), .inr ⟨ob, hq9⟩, rfl, hx4.symm⟩, .inl ⟨_, .inl hq29⟩, _, DGet.k (k := Sum.inl ((t - x : Nat) : Int)) hq29, ?_⟩
      rw [hd2.getD]
      walk_at "wq"
      refine ⟨cmul_wy hf16 hw16 hn20 hmn, hN _ _ ⟨some (.int x), ?_, rfl⟩⟩
      rw [List.take_add_one, hx1, List.map_append, List.sum_append]
      rw [show ∀ A B C : Nat, V.int ((A : Int) + (B : Int) * (C : Int)) = vI (A + (B * C + 0)) from fun A B C => by rw [vI]; congr 1]
      rfl
    · rintro σ H10 ⟨v11, rfl, rfl⟩
      rw [hd1.length, List.take_of_length_le (Nat.le_refl _), due_sum hd1 hm1 hmn]
      walk_at "wq"
      refine ⟨a, ns, 7, rfl, hS8.sq hS1, ?_⟩
      walk_at "wq"
      refine ⟨p, ws.map vI, _, rfl, hS8 _ _ hp1, by rw [List.length_map]; omega, ?_⟩
      rw [and_comm]
      suffices go : ∀ (tt : Addr) (H3 : Hp), SqS K H3 tt (ws.map vI) → Same H10 H3 → _ by
        exact ⟨fun t H3 _ h2 h3 => go t H3 (SqS.of h2) h3, fun t H3 _ h2 h3 => go t H3 (SqS.ofT h2) h3⟩
      intro tt H11 htt h11
      walk_at "wq"
      refine ⟨tt, ws, n, t, rfl, htt, hw2, hw16, hw, hn1, hn20, ht, fun H12 h12 => ?_⟩
      have hfound : (if t < 50 * n + 1 then spd ws n t else 0) = wy fs ws n t := by
        rw [hfs, ← spd_wy hn1]
        by_cases e : t < 50 * n + 1
        · rw [if_pos e]
        · rw [if_neg e]
          symm
          unfold spd
          refine spF_big (fun x hx => ?_) hw (n - 1) t (by omega)
          split at hx
          · exact hw x hx
          · exact hw x (List.mem_of_mem_tail hx)
      rw [hfound]
      have hp12 := h12 _ _ (h11 _ _ (hS8 _ _ hp1))
      walk_at "wq"
      refine ⟨_, rfl, ?_⟩
      walk_at "wq"
      refine ⟨tt, p, ws.map fun d : Nat => (d : Int), rfl, ?_, ?_, ?_, ?_⟩
      · rw [List.map_map]; exact h12.sq htt
      · rw [List.map_map]; exact SqS.of hp12
      · rw [List.length_map]; omega
      exact k _
end
end My
namespace My
open PySem PySem.Spec PyProof.Rows L2
theorem all_mk {P : Program} {w : World} {K : PySem.W.Frag} {h : Heap} {mg : Str → Option Value} {fa : Addr} {v_LEAST_BASE : Value} {v_MOST_BASE : Value} {v_MOST_COUNTED : Value} {v_MOST_TARGET : Value} {v_MOST_WORTH : Value} {f__law_whole : Addr} {oc__law_whole kV__law_whole doc__law_whole pm__law_whole cdv__law_whole ct__law_whole : Value} {od__law_whole an__law_whole : Option Addr} {osl__law_whole : Array (Option Value)} {f__law_same : Addr} {oc__law_same kV__law_same doc__law_same pm__law_same cdv__law_same ct__law_same : Value} {od__law_same an__law_same : Option Addr} {osl__law_same : Array (Option Value)} {f_lengthened : Addr} {oc_lengthened kV_lengthened doc_lengthened pm_lengthened cdv_lengthened ct_lengthened : Value} {od_lengthened an_lengthened : Option Addr} {osl_lengthened : Array (Option Value)} {f_spread : Addr} {oc_spread kV_spread doc_spread pm_spread cdv_spread ct_spread : Value} {od_spread an_spread : Option Addr} {osl_spread : Array (Option Value)} {f_check_target : Addr} {oc_check_target kV_check_target doc_check_target pm_check_target cdv_check_target ct_check_target : Value} {od_check_target an_check_target : Option Addr} {osl_check_target : Array (Option Value)} {f_check_length : Addr} {oc_check_length kV_check_length doc_check_length pm_check_length cdv_check_length ct_check_length : Value} {od_check_length an_check_length : Option Addr} {osl_check_length : Array (Option Value)} {f_check_worth : Addr} {oc_check_worth kV_check_worth doc_check_worth pm_check_worth cdv_check_worth ct_check_worth : Value} {od_check_worth an_check_worth : Option Addr} {osl_check_worth : Array (Option Value)} {f_check_base : Addr} {oc_check_base kV_check_base doc_check_base pm_check_base cdv_check_base ct_check_base : Value} {od_check_base an_check_base : Option Addr} {osl_check_base : Array (Option Value)} {f_check_worths : Addr} {oc_check_worths kV_check_worths doc_check_worths pm_check_worths cdv_check_worths ct_check_worths : Value} {od_check_worths an_check_worths : Option Addr} {osl_check_worths : Array (Option Value)} {f_many_of : Addr} {oc_many_of kV_many_of doc_many_of pm_many_of cdv_many_of ct_many_of : Value} {od_many_of an_many_of : Option Addr} {osl_many_of : Array (Option Value)} {f__law_handed : Addr} {oc__law_handed kV__law_handed doc__law_handed pm__law_handed cdv__law_handed ct__law_handed : Value} {od__law_handed an__law_handed : Option Addr} {osl__law_handed : Array (Option Value)} {f__law_at : Addr} {oc__law_at kV__law_at doc__law_at pm__law_at cdv__law_at ct__law_at : Value} {od__law_at an__law_at : Option Addr} {osl__law_at : Array (Option Value)} {f__law_ways : Addr} {oc__law_ways kV__law_ways doc__law_ways pm__law_ways cdv__law_ways ct__law_ways : Value} {od__law_ways an__law_ways : Option Addr} {osl__law_ways : Array (Option Value)} {f__law_mixed : Addr} {oc__law_mixed kV__law_mixed doc__law_mixed pm__law_mixed cdv__law_mixed ct__law_mixed : Value} {od__law_mixed an__law_mixed : Option Addr} {osl__law_mixed : Array (Option Value)} {f__law_book : Addr} {oc__law_book kV__law_book doc__law_book pm__law_book cdv__law_book ct__law_book : Value} {od__law_book an__law_book : Option Addr} {osl__law_book : Array (Option Value)} {f_law : Addr} {oc_law kV_law doc_law pm_law cdv_law ct_law : Value} {od_law an_law : Option Addr} {osl_law : Array (Option Value)} (KX : K.In h) (G : h.Ns mainGlobals mg) (hmg : mg "law" = some (.ref fa))
    (zb_bool : PySem.W.nsIn K mainGlobals "bool" = some none)
    (zb_enumerate : PySem.W.nsIn K mainGlobals "enumerate" = some none)
    (zb_int : PySem.W.nsIn K mainGlobals "int" = some none)
    (zb_isinstance : PySem.W.nsIn K mainGlobals "isinstance" = some none)
    (zb_len : PySem.W.nsIn K mainGlobals "len" = some none)
    (zb_list : PySem.W.nsIn K mainGlobals "list" = some none)
    (zb_min : PySem.W.nsIn K mainGlobals "min" = some none)
    (zb_range : PySem.W.nsIn K mainGlobals "range" = some none)
    (zb_tuple : PySem.W.nsIn K mainGlobals "tuple" = some none)
    (zc_LEAST_BASE : PySem.W.nsIn K mainGlobals "LEAST_BASE" = some (some v_LEAST_BASE))
    (zd_LEAST_BASE : ∃ t, v_LEAST_BASE = .int (2) t)
    (zc_MOST_BASE : PySem.W.nsIn K mainGlobals "MOST_BASE" = some (some v_MOST_BASE))
    (zd_MOST_BASE : ∃ t, v_MOST_BASE = .int (16) t)
    (zc_MOST_COUNTED : PySem.W.nsIn K mainGlobals "MOST_COUNTED" = some (some v_MOST_COUNTED))
    (zd_MOST_COUNTED : ∃ t, v_MOST_COUNTED = .int (20) t)
    (zc_MOST_TARGET : PySem.W.nsIn K mainGlobals "MOST_TARGET" = some (some v_MOST_TARGET))
    (zd_MOST_TARGET : ∃ t, v_MOST_TARGET = .int (1000) t)
    (zc_MOST_WORTH : PySem.W.nsIn K mainGlobals "MOST_WORTH" = some (some v_MOST_WORTH))
    (zd_MOST_WORTH : ∃ t, v_MOST_WORTH = .int (50) t)
    (a__law_whole : PySem.W.nsIn K mainGlobals "_law_whole" = some (some (.ref f__law_whole)))
    (l__law_whole : K.lookup f__law_whole = some ⟨oc__law_whole, od__law_whole, .func (PySem.W.fnOf "_law_whole" "_law_whole" (defArgs s__law_whole) (defBody s__law_whole) (defScope s__law_whole) .none kV__law_whole doc__law_whole pm__law_whole an__law_whole cdv__law_whole ct__law_whole), osl__law_whole⟩)
    (cd__law_whole : PySem.W.codeIn K cdv__law_whole "_law_whole" = true)
    (kp__law_whole : PySem.W.keepIn K (.ref f__law_whole) = true)
    (a__law_same : PySem.W.nsIn K mainGlobals "_law_same" = some (some (.ref f__law_same)))
    (l__law_same : K.lookup f__law_same = some ⟨oc__law_same, od__law_same, .func (PySem.W.fnOf "_law_same" "_law_same" (defArgs s__law_same) (defBody s__law_same) (defScope s__law_same) .none kV__law_same doc__law_same pm__law_same an__law_same cdv__law_same ct__law_same), osl__law_same⟩)
    (cd__law_same : PySem.W.codeIn K cdv__law_same "_law_same" = true)
    (kp__law_same : PySem.W.keepIn K (.ref f__law_same) = true)
    (a_lengthened : PySem.W.nsIn K mainGlobals "lengthened" = some (some (.ref f_lengthened)))
    (l_lengthened : K.lookup f_lengthened = some ⟨oc_lengthened, od_lengthened, .func (PySem.W.fnOf "lengthened" "lengthened" (defArgs s_lengthened) (defBody s_lengthened) (defScope s_lengthened) .none kV_lengthened doc_lengthened pm_lengthened an_lengthened cdv_lengthened ct_lengthened), osl_lengthened⟩)
    (cd_lengthened : PySem.W.codeIn K cdv_lengthened "lengthened" = true)
    (kp_lengthened : PySem.W.keepIn K (.ref f_lengthened) = true)
    (a_spread : PySem.W.nsIn K mainGlobals "spread" = some (some (.ref f_spread)))
    (l_spread : K.lookup f_spread = some ⟨oc_spread, od_spread, .func (PySem.W.fnOf "spread" "spread" (defArgs s_spread) (defBody s_spread) (defScope s_spread) .none kV_spread doc_spread pm_spread an_spread cdv_spread ct_spread), osl_spread⟩)
    (cd_spread : PySem.W.codeIn K cdv_spread "spread" = true)
    (kp_spread : PySem.W.keepIn K (.ref f_spread) = true)
    (a_check_target : PySem.W.nsIn K mainGlobals "check_target" = some (some (.ref f_check_target)))
    (l_check_target : K.lookup f_check_target = some ⟨oc_check_target, od_check_target, .func (PySem.W.fnOf "check_target" "check_target" (defArgs s_check_target) (defBody s_check_target) (defScope s_check_target) .none kV_check_target doc_check_target pm_check_target an_check_target cdv_check_target ct_check_target), osl_check_target⟩)
    (cd_check_target : PySem.W.codeIn K cdv_check_target "check_target" = true)
    (kp_check_target : PySem.W.keepIn K (.ref f_check_target) = true)
    (a_check_length : PySem.W.nsIn K mainGlobals "check_length" = some (some (.ref f_check_length)))
    (l_check_length : K.lookup f_check_length = some ⟨oc_check_length, od_check_length, .func (PySem.W.fnOf "check_length" "check_length" (defArgs s_check_length) (defBody s_check_length) (defScope s_check_length) .none kV_check_length doc_check_length pm_check_length an_check_length cdv_check_length ct_check_length), osl_check_length⟩)
    (cd_check_length : PySem.W.codeIn K cdv_check_length "check_length" = true)
    (kp_check_length : PySem.W.keepIn K (.ref f_check_length) = true)
    (a_check_worth : PySem.W.nsIn K mainGlobals "check_worth" = some (some (.ref f_check_worth)))
    (l_check_worth : K.lookup f_check_worth = some ⟨oc_check_worth, od_check_worth, .func (PySem.W.fnOf "check_worth" "check_worth" (defArgs s_check_worth) (defBody s_check_worth) (defScope s_check_worth) .none kV_check_worth doc_check_worth pm_check_worth an_check_worth cdv_check_worth ct_check_worth), osl_check_worth⟩)
    (cd_check_worth : PySem.W.codeIn K cdv_check_worth "check_worth" = true)
    (kp_check_worth : PySem.W.keepIn K (.ref f_check_worth) = true)
    (a_check_base : PySem.W.nsIn K mainGlobals "check_base" = some (some (.ref f_check_base)))
    (l_check_base : K.lookup f_check_base = some ⟨oc_check_base, od_check_base, .func (PySem.W.fnOf "check_base" "check_base" (defArgs s_check_base) (defBody s_check_base) (defScope s_check_base) .none kV_check_base doc_check_base pm_check_base an_check_base cdv_check_base ct_check_base), osl_check_base⟩)
    (cd_check_base : PySem.W.codeIn K cdv_check_base "check_base" = true)
    (kp_check_base : PySem.W.keepIn K (.ref f_check_base) = true)
    (a_check_worths : PySem.W.nsIn K mainGlobals "check_worths" = some (some (.ref f_check_worths)))
    (l_check_worths : K.lookup f_check_worths = some ⟨oc_check_worths, od_check_worths, .func (PySem.W.fnOf "check_worths" "check_worths" (defArgs s_check_worths) (defBody s_check_worths) (defScope s_check_worths) .none kV_check_worths doc_check_worths pm_check_worths an_check_worths cdv_check_worths ct_check_worths), osl_check_worths⟩)
    (cd_check_worths : PySem.W.codeIn K cdv_check_worths "check_worths" = true)
    (kp_check_worths : PySem.W.keepIn K (.ref f_check_worths) = true)
    (a_many_of : PySem.W.nsIn K mainGlobals "many_of" = some (some (.ref f_many_of)))
    (l_many_of : K.lookup f_many_of = some ⟨oc_many_of, od_many_of, .func (PySem.W.fnOf "many_of" "many_of" (defArgs s_many_of) (defBody s_many_of) (defScope s_many_of) .none kV_many_of doc_many_of pm_many_of an_many_of cdv_many_of ct_many_of), osl_many_of⟩)
    (cd_many_of : PySem.W.codeIn K cdv_many_of "many_of" = true)
    (kp_many_of : PySem.W.keepIn K (.ref f_many_of) = true)
    (a__law_handed : PySem.W.nsIn K mainGlobals "_law_handed" = some (some (.ref f__law_handed)))
    (l__law_handed : K.lookup f__law_handed = some ⟨oc__law_handed, od__law_handed, .func (PySem.W.fnOf "_law_handed" "_law_handed" (defArgs s__law_handed) (defBody s__law_handed) (defScope s__law_handed) .none kV__law_handed doc__law_handed pm__law_handed an__law_handed cdv__law_handed ct__law_handed), osl__law_handed⟩)
    (cd__law_handed : PySem.W.codeIn K cdv__law_handed "_law_handed" = true)
    (kp__law_handed : PySem.W.keepIn K (.ref f__law_handed) = true)
    (a__law_at : PySem.W.nsIn K mainGlobals "_law_at" = some (some (.ref f__law_at)))
    (l__law_at : K.lookup f__law_at = some ⟨oc__law_at, od__law_at, .func (PySem.W.fnOf "_law_at" "_law_at" (defArgs s__law_at) (defBody s__law_at) (defScope s__law_at) .none kV__law_at doc__law_at pm__law_at an__law_at cdv__law_at ct__law_at), osl__law_at⟩)
    (cd__law_at : PySem.W.codeIn K cdv__law_at "_law_at" = true)
    (kp__law_at : PySem.W.keepIn K (.ref f__law_at) = true)
    (a__law_ways : PySem.W.nsIn K mainGlobals "_law_ways" = some (some (.ref f__law_ways)))
    (l__law_ways : K.lookup f__law_ways = some ⟨oc__law_ways, od__law_ways, .func (PySem.W.fnOf "_law_ways" "_law_ways" (defArgs s__law_ways) (defBody s__law_ways) (defScope s__law_ways) .none kV__law_ways doc__law_ways pm__law_ways an__law_ways cdv__law_ways ct__law_ways), osl__law_ways⟩)
    (cd__law_ways : PySem.W.codeIn K cdv__law_ways "_law_ways" = true)
    (kp__law_ways : PySem.W.keepIn K (.ref f__law_ways) = true)
    (a__law_mixed : PySem.W.nsIn K mainGlobals "_law_mixed" = some (some (.ref f__law_mixed)))
    (l__law_mixed : K.lookup f__law_mixed = some ⟨oc__law_mixed, od__law_mixed, .func (PySem.W.fnOf "_law_mixed" "_law_mixed" (defArgs s__law_mixed) (defBody s__law_mixed) (defScope s__law_mixed) .none kV__law_mixed doc__law_mixed pm__law_mixed an__law_mixed cdv__law_mixed ct__law_mixed), osl__law_mixed⟩)
    (cd__law_mixed : PySem.W.codeIn K cdv__law_mixed "_law_mixed" = true)
    (kp__law_mixed : PySem.W.keepIn K (.ref f__law_mixed) = true)
    (a__law_book : PySem.W.nsIn K mainGlobals "_law_book" = some (some (.ref f__law_book)))
    (l__law_book : K.lookup f__law_book = some ⟨oc__law_book, od__law_book, .func (PySem.W.fnOf "_law_book" "_law_book" (defArgs s__law_book) (defBody s__law_book) (defScope s__law_book) .none kV__law_book doc__law_book pm__law_book an__law_book cdv__law_book ct__law_book), osl__law_book⟩)
    (cd__law_book : PySem.W.codeIn K cdv__law_book "_law_book" = true)
    (kp__law_book : PySem.W.keepIn K (.ref f__law_book) = true)
    (a_law : PySem.W.nsIn K mainGlobals "law" = some (some (.ref f_law)))
    (l_law : K.lookup f_law = some ⟨oc_law, od_law, .func (PySem.W.fnOf "law" "law" (defArgs s_law) (defBody s_law) (defScope s_law) .none kV_law doc_law pm_law an_law cdv_law ct_law), osl_law⟩)
    (cd_law : PySem.W.codeIn K cdv_law "law" = true)
    (kp_law : PySem.W.keepIn K (.ref f_law) = true) :
    ∃ fd : FuncData, (∀ (s : Shared) (v : Value), BindsTo s fd ⟨[v], []⟩ [("_law_script", v)]) ∧ ∀ base : Heap, K.In base → base.Ns mainGlobals mg → FnOk P w K mg base CX0 4 fa fd ["_law_script"] (sp_law K) := by
  have T : Txt mg := Txt.mk (PySem.W.mg_none_of KX G zb_bool) (PySem.W.mg_none_of KX G zb_enumerate) (PySem.W.mg_none_of KX G zb_int) (PySem.W.mg_none_of KX G zb_isinstance) (PySem.W.mg_none_of KX G zb_len) (PySem.W.mg_none_of KX G zb_list) (PySem.W.mg_none_of KX G zb_min) (PySem.W.mg_none_of KX G zb_range) (PySem.W.mg_none_of KX G zb_tuple) (L2.gi_of (PySem.W.mg_of KX G zc_LEAST_BASE) zd_LEAST_BASE) (L2.gi_of (PySem.W.mg_of KX G zc_MOST_BASE) zd_MOST_BASE) (L2.gi_of (PySem.W.mg_of KX G zc_MOST_COUNTED) zd_MOST_COUNTED) (L2.gi_of (PySem.W.mg_of KX G zc_MOST_TARGET) zd_MOST_TARGET) (L2.gi_of (PySem.W.mg_of KX G zc_MOST_WORTH) zd_MOST_WORTH)
  have F__law_whole : FunAt K mg "_law_whole" s__law_whole ["_law_found"] := funAt_mk KX G a__law_whole l__law_whole cd__law_whole kp__law_whole (fun _ _ _ _ _ _ us hl => match us, hl with | [_], _ => rfl)
  have F__law_same : FunAt K mg "_law_same" s__law_same ["_law_handed_here", "_law_row"] := funAt_mk KX G a__law_same l__law_same cd__law_same kp__law_same (fun _ _ _ _ _ _ us hl => match us, hl with | [_, _], _ => rfl)
  have F_lengthened : FunAt K mg "lengthened" s_lengthened ["tally", "worths"] := funAt_mk KX G a_lengthened l_lengthened cd_lengthened kp_lengthened (fun _ _ _ _ _ _ us hl => match us, hl with | [_, _], _ => rfl)
  have F_spread : FunAt K mg "spread" s_spread ["worths", "length"] := funAt_mk KX G a_spread l_spread cd_spread kp_spread (fun _ _ _ _ _ _ us hl => match us, hl with | [_, _], _ => rfl)
  have F_check_target : FunAt K mg "check_target" s_check_target ["target"] := funAt_mk KX G a_check_target l_check_target cd_check_target kp_check_target (fun _ _ _ _ _ _ us hl => match us, hl with | [_], _ => rfl)
  have F_check_length : FunAt K mg "check_length" s_check_length ["length"] := funAt_mk KX G a_check_length l_check_length cd_check_length kp_check_length (fun _ _ _ _ _ _ us hl => match us, hl with | [_], _ => rfl)
  have F_check_worth : FunAt K mg "check_worth" s_check_worth ["worth"] := funAt_mk KX G a_check_worth l_check_worth cd_check_worth kp_check_worth (fun _ _ _ _ _ _ us hl => match us, hl with | [_], _ => rfl)
  have F_check_base : FunAt K mg "check_base" s_check_base ["base"] := funAt_mk KX G a_check_base l_check_base cd_check_base kp_check_base (fun _ _ _ _ _ _ us hl => match us, hl with | [_], _ => rfl)
  have F_check_worths : FunAt K mg "check_worths" s_check_worths ["worths"] := funAt_mk KX G a_check_worths l_check_worths cd_check_worths kp_check_worths (fun _ _ _ _ _ _ us hl => match us, hl with | [_], _ => rfl)
  have F_many_of : FunAt K mg "many_of" s_many_of ["worths", "length", "target"] := funAt_mk KX G a_many_of l_many_of cd_many_of kp_many_of (fun _ _ _ _ _ _ us hl => match us, hl with | [_, _, _], _ => rfl)
  have F__law_handed : FunAt K mg "_law_handed" s__law_handed ["_law_row", "_law_way"] := funAt_mk KX G a__law_handed l__law_handed cd__law_handed kp__law_handed (fun _ _ _ _ _ _ us hl => match us, hl with | [_, _], _ => rfl)
  have F__law_at : FunAt K mg "_law_at" s__law_at ["_law_script", "_law_k"] := funAt_mk KX G a__law_at l__law_at cd__law_at kp__law_at (fun _ _ _ _ _ _ us hl => match us, hl with | [_, _], _ => rfl)
  have F__law_ways : FunAt K mg "_law_ways" s__law_ways ["_law_row", "_law_first", "_law_many", "_law_target"] := funAt_mk KX G a__law_ways l__law_ways cd__law_ways kp__law_ways (fun _ _ _ _ _ _ us hl => match us, hl with | [_, _, _, _], _ => rfl)
  have F__law_mixed : FunAt K mg "_law_mixed" s__law_mixed ["_law_cell", "_law_place"] := funAt_mk KX G a__law_mixed l__law_mixed cd__law_mixed kp__law_mixed (fun _ _ _ _ _ _ us hl => match us, hl with | [_, _], _ => rfl)
  have F__law_book : FunAt K mg "_law_book" s__law_book ["_law_script", "_law_k"] := funAt_mk KX G a__law_book l__law_book cd__law_book kp__law_book (fun _ _ _ _ _ _ us hl => match us, hl with | [_, _], _ => rfl)
  refine L2.law_mk (st := s_law) KX G hmg a_law l_law cd_law kp_law (fun s v => .of_eq rfl) ?_
  intro base fd F
  have G__law_whole := ok__law_whole (P := P) (w := w) (base := base) T F__law_whole 
  have G__law_same := ok__law_same (P := P) (w := w) (base := base) T F__law_same G__law_whole
  have G_lengthened := ok_lengthened (P := P) (w := w) (base := base) T F_lengthened 
  have G_spread := ok_spread (P := P) (w := w) (base := base) T F_spread G_lengthened
  have G_check_target := ok_check_target (P := P) (w := w) (base := base) T F_check_target 
  have G_check_length := ok_check_length (P := P) (w := w) (base := base) T F_check_length 
  have G_check_worth := ok_check_worth (P := P) (w := w) (base := base) T F_check_worth 
  have G_check_base := ok_check_base (P := P) (w := w) (base := base) T F_check_base 
  have G_check_worths := ok_check_worths (P := P) (w := w) (base := base) T F_check_worths G_check_worth G_check_base
  have G_many_of := ok_many_of (P := P) (w := w) (base := base) T F_many_of G_spread G_check_target G_check_length G_check_worths
  have G__law_handed := ok__law_handed (P := P) (w := w) (base := base) T F__law_handed 
  have G__law_at := ok__law_at (P := P) (w := w) (base := base) T F__law_at 
  have G__law_ways := ok__law_ways (P := P) (w := w) (base := base) T F__law_ways 
  have G__law_mixed := ok__law_mixed (P := P) (w := w) (base := base) T F__law_mixed 
  have G__law_book := ok__law_book (P := P) (w := w) (base := base) T F__law_book G__law_mixed G__law_at
  exact fn_law T F G__law_same G__law_whole G_many_of G__law_handed G__law_at G__law_ways G__law_mixed G__law_book
end My
open PySem PySem.W PyProof.Rows
set_option maxHeartbeats 0 in
theorem PySem.Challenge.cw_figurefall_k11_many_holds : PySem.Challenge.rw_figurefall_k11_many.Holds := by
  w_on; o_law; k_head; (case hw => w_witness2)
  k_fill
  refine L2.walk_ofK (l := PySem.Challenge.rw_figurefall_k11_many) (n := 63) (k := 4) (x := "_law_script") (CX := L2.CX0) (sp := My.sp_law) rfl (by decide) rfl ⟨rfl, by decide, by decide⟩ (fun w h Y => PySem.W.kIn_of Y) ?F ?S ?C
  case S => exact fun _ _ a ns hl _ hS => ⟨a, ns, rfl, hS, hl, fun _ => rfl⟩
  case C => exact fun _ _ _ _ z => z
  case F =>
    intro w mg fa h KX G hmg
    refine' My.all_mk KX G hmg ?zb_bool ?zb_enumerate ?zb_int ?zb_isinstance ?zb_len ?zb_list ?zb_min ?zb_range ?zb_tuple ?zc_LEAST_BASE ?zd_LEAST_BASE ?zc_MOST_BASE ?zd_MOST_BASE ?zc_MOST_COUNTED ?zd_MOST_COUNTED ?zc_MOST_TARGET ?zd_MOST_TARGET ?zc_MOST_WORTH ?zd_MOST_WORTH ?a__law_whole ?l__law_whole ?cd__law_whole ?kp__law_whole ?a__law_same ?l__law_same ?cd__law_same ?kp__law_same ?a_lengthened ?l_lengthened ?cd_lengthened ?kp_lengthened ?a_spread ?l_spread ?cd_spread ?kp_spread ?a_check_target ?l_check_target ?cd_check_target ?kp_check_target ?a_check_length ?l_check_length ?cd_check_length ?kp_check_length ?a_check_worth ?l_check_worth ?cd_check_worth ?kp_check_worth ?a_check_base ?l_check_base ?cd_check_base ?kp_check_base ?a_check_worths ?l_check_worths ?cd_check_worths ?kp_check_worths ?a_many_of ?l_many_of ?cd_many_of ?kp_many_of ?a__law_handed ?l__law_handed ?cd__law_handed ?kp__law_handed ?a__law_at ?l__law_at ?cd__law_at ?kp__law_at ?a__law_ways ?l__law_ways ?cd__law_ways ?kp__law_ways ?a__law_mixed ?l__law_mixed ?cd__law_mixed ?kp__law_mixed ?a__law_book ?l__law_book ?cd__law_book ?kp__law_book ?a_law ?l_law ?cd_law ?kp_law
    (case zb_bool => k_is)
    (case zb_enumerate => k_is)
    (case zb_int => k_is)
    (case zb_isinstance => k_is)
    (case zb_len => k_is)
    (case zb_list => k_is)
    (case zb_min => k_is)
    (case zb_range => k_is)
    (case zb_tuple => k_is)
    (case zc_LEAST_BASE => k_is)
    (case zd_LEAST_BASE => exact ⟨_, rfl⟩)
    (case zc_MOST_BASE => k_is)
    (case zd_MOST_BASE => exact ⟨_, rfl⟩)
    (case zc_MOST_COUNTED => k_is)
    (case zd_MOST_COUNTED => exact ⟨_, rfl⟩)
    (case zc_MOST_TARGET => k_is)
    (case zd_MOST_TARGET => exact ⟨_, rfl⟩)
    (case zc_MOST_WORTH => k_is)
    (case zd_MOST_WORTH => exact ⟨_, rfl⟩)
    (case a__law_whole => k_is)
    (case l__law_whole => k_is)
    (case cd__law_whole => k_is)
    (case kp__law_whole => k_is)
    (case a__law_same => k_is)
    (case l__law_same => k_is)
    (case cd__law_same => k_is)
    (case kp__law_same => k_is)
    (case a_lengthened => k_is)
    (case l_lengthened => k_is)
    (case cd_lengthened => k_is)
    (case kp_lengthened => k_is)
    (case a_spread => k_is)
    (case l_spread => k_is)
    (case cd_spread => k_is)
    (case kp_spread => k_is)
    (case a_check_target => k_is)
    (case l_check_target => k_is)
    (case cd_check_target => k_is)
    (case kp_check_target => k_is)
    (case a_check_length => k_is)
    (case l_check_length => k_is)
    (case cd_check_length => k_is)
    (case kp_check_length => k_is)
    (case a_check_worth => k_is)
    (case l_check_worth => k_is)
    (case cd_check_worth => k_is)
    (case kp_check_worth => k_is)
    (case a_check_base => k_is)
    (case l_check_base => k_is)
    (case cd_check_base => k_is)
    (case kp_check_base => k_is)
    (case a_check_worths => k_is)
    (case l_check_worths => k_is)
    (case cd_check_worths => k_is)
    (case kp_check_worths => k_is)
    (case a_many_of => k_is)
    (case l_many_of => k_is)
    (case cd_many_of => k_is)
    (case kp_many_of => k_is)
    (case a__law_handed => k_is)
    (case l__law_handed => k_is)
    (case cd__law_handed => k_is)
    (case kp__law_handed => k_is)
    (case a__law_at => k_is)
    (case l__law_at => k_is)
    (case cd__law_at => k_is)
    (case kp__law_at => k_is)
    (case a__law_ways => k_is)
    (case l__law_ways => k_is)
    (case cd__law_ways => k_is)
    (case kp__law_ways => k_is)
    (case a__law_mixed => k_is)
    (case l__law_mixed => k_is)
    (case cd__law_mixed => k_is)
    (case kp__law_mixed => k_is)
    (case a__law_book => k_is)
    (case l__law_book => k_is)
    (case cd__law_book => k_is)
    (case kp__law_book => k_is)
    (case a_law => k_is)
    (case l_law => k_is)
    (case cd_law => k_is)
    (case kp_law => k_is)
