import PyProof.Rows.All
import Wide.All
import OpenK.AllK
import Wide.FinOn
import PyProof.EqAt
import PyProof.EqKinds
import PyProof.TupleCall
import KE.BitLaws
import Open.SpecLaws
import KE.OsHead
import KE.OsGo
import PySem.Challenge.RW_foilcuts_s01_answers
set_option Elab.async false
set_option linter.all false
set_option maxRecDepth 100000
/-! THE HAND LAYER, for ints, bools, texts, own classes, lists, tuples, dicts, comprehensions, walks over dicts, enumerate, zip, reversed, texts, calls, loops. Paste it whole ahead of your own text; what your proof does not reach may be deleted. -/
namespace L2
open PySem PySem.Spec PyProof.Rows

/-- a key: an int or a str -/
abbrev Key := Sum Int Str
def keyIs : Key → Value → Bool
  | .inl k, v => Value.isInt k v
  | .inr x, v => Value.isStrOf x v
def keyH (w : World) : Key → Int
  | .inl k => hashInt k
  | .inr x => hashStr w x
theorem keyIs_shape : ∀ {k : Key} {v : Value}, keyIs k v = true → (∃ i t, k = Sum.inl i ∧ v = Value.int i t) ∨ (∃ x t, k = Sum.inr x ∧ v = Value.str x t)
  | .inl i, v, h => by
    obtain ⟨t, e⟩ := Value.isInt_shape (k := i) (v := v) h
    exact .inl ⟨i, t, rfl, e⟩
  | .inr x, v, h => by
    obtain ⟨t, e⟩ := Value.isStrOf_shape (x := x) (v := v) h
    exact .inr ⟨x, t, rfl, e⟩
theorem keyIs_int (i : Int) (t : Tok) : keyIs (.inl i) (.int i t) = true := by simp [keyIs, Value.isInt]
theorem keyIs_str (x : Str) (t : Tok) : keyIs (.inr x) (.str x t) = true := by simp [keyIs, Value.isStrOf]
theorem key_ll (a b : Int) : decide ((Sum.inl a : Key) = Sum.inl b) = (a == b) := by
  by_cases e : a = b
  · subst e; simp
  · have h : ¬ (Sum.inl a : Key) = Sum.inl b := fun q => e (Sum.inl.inj q)
    rw [decide_eq_false h]
    exact (beq_eq_false_iff_ne.mpr e).symm
theorem key_rr (a b : Str) : decide ((Sum.inr a : Key) = Sum.inr b) = decide (a = b) := by
  by_cases e : a = b
  · subst e; simp
  · have h : ¬ (Sum.inr a : Key) = Sum.inr b := fun q => e (Sum.inr.inj q)
    rw [decide_eq_false h, decide_eq_false e]
theorem key_lr (a : Int) (b : Str) : decide ((Sum.inl a : Key) = Sum.inr b) = false := decide_eq_false (fun q => nomatch q)
theorem key_rl (a : Str) (b : Int) : decide ((Sum.inr a : Key) = Sum.inl b) = false := decide_eq_false (fun q => nomatch q)

def mixKind (prog : Program) (w : World) : PySem.KeyKind prog w Key where
  is := keyIs
  hash := keyH w
  inj := fun v a b ha hb => by
    rcases keyIs_shape ha with ⟨i, t, rfl, rfl⟩ | ⟨x, t, rfl, rfl⟩
    · rcases keyIs_shape hb with ⟨j, u, rfl, e⟩ | ⟨y, u, rfl, e⟩
      · injection e with e1 _; rw [e1]
      · exact nomatch e
    · rcases keyIs_shape hb with ⟨j, u, rfl, e⟩ | ⟨y, u, rfl, e⟩
      · exact nomatch e
      · injection e with e1 _; rw [e1]
  byValue := fun k v h => by
    rcases keyIs_shape h with ⟨i, t, rfl, rfl⟩ | ⟨x, t, rfl, rfl⟩ <;> rfl
  pyHash := fun hv h => by
    rcases keyIs_shape hv with ⟨i, t, rfl, rfl⟩ | ⟨x, t, rfl, rfl⟩
    · exact wpAny_pyHash_int h
    · exact wpAny_pyHash_str h
  eqBool := fun hu hv h => by
    rcases keyIs_shape hu with ⟨i, t, rfl, rfl⟩ | ⟨x, t, rfl, rfl⟩
    · rcases keyIs_shape hv with ⟨j, u, rfl, rfl⟩ | ⟨y, u, rfl, rfl⟩
      · rw [key_ll] at h; exact wpAny_eqBool_int h
      · rw [key_lr] at h; exact SeqAt.EqAt.int_str i t y u _ _ _ _ h
    · rcases keyIs_shape hv with ⟨j, u, rfl, rfl⟩ | ⟨y, u, rfl, rfl⟩
      · rw [key_rl] at h; exact SeqAt.EqAt.str_int x t j u _ _ _ _ h
      · rw [key_rr] at h; exact wpAny_eqBool_str h
  «strs» := fun k x t v h => by
    rcases keyIs_shape h with ⟨i, u, rfl, e⟩ | ⟨y, u, rfl, e⟩
    · exact nomatch e
    · injection e with e1 _
      subst e1
      cases v <;> rfl

theorem mixKind_int (prog : Program) (w : World) (i : Int) (t : Tok) : (mixKind prog w).is (.inl i) (.int i t) = true := keyIs_int i t
theorem mixKind_str (prog : Program) (w : World) (x : Str) (t : Tok) : (mixKind prog w).is (.inr x) (.str x t) = true := keyIs_str x t
end L2

namespace L2
open PySem PySem.Spec PyProof.Rows

/-- a value, without the heap -/
inductive V where
  | non | bl (b : Bool) | int (i : Int) | str (x : Str) | byt (b : Array UInt8) | flt (b : UInt64) | ref (a : Addr) | ty (n : String)
  deriving DecidableEq

def RelV : V → Value → Prop
  | .non, u => u = Value.none
  | .bl b, u => u = Value.bool b
  | .int i, u => ∃ t, u = Value.int i t
  | .str x, u => ∃ t, u = Value.str x t
  | .byt b, u => ∃ t, u = Value.bytes b t
  | .flt b, u => ∃ t, u = Value.float b t
  | .ref a, u => u = Value.ref a
  | .ty n, u => u = Value.type n

abbrev Vals : List V → List Value → Prop := Paired RelV
theorem Vals.length {xs : List V} {us : List Value} (r : Vals xs us) : xs.length = us.length := Paired.length r
theorem Vals.get : ∀ {xs : List V} {us : List Value} {i : Nat} {x : V}, Vals xs us → xs[i]? = some x → ∃ u, us[i]? = some u ∧ RelV x u
  | _, _, _, _, .nil, e => by simp at e
  | _, _, 0, _, .cons r _, e => by simp at e; subst e; exact ⟨_, rfl, r⟩
  | _, _, i + 1, x, .cons _ t, e => by
    obtain ⟨u, h1, h2⟩ := Vals.get (i := i) (x := x) t (by simpa using e)
    exact ⟨u, by simpa using h1, h2⟩
theorem Vals.set {x : V} {u : Value} (r : RelV x u) : ∀ {xs : List V} {us : List Value} (i : Nat), Vals xs us → Vals (xs.set i x) (us.set i u)
  | _, _, _, .nil => .nil
  | _, _, 0, .cons _ t => .cons r t
  | _, _, i + 1, .cons q t => .cons q (Vals.set r i t)
theorem Vals.append : ∀ {xs ys : List V} {us ws : List Value}, Vals xs us → Vals ys ws → Vals (xs ++ ys) (us ++ ws)
  | _, _, _, _, .nil, s => s
  | _, _, _, _, .cons r t, s => .cons r (Vals.append t s)
theorem Vals.take : ∀ {xs : List V} {us : List Value} (n : Nat), Vals xs us → Vals (xs.take n) (us.take n)
  | _, _, 0, _ => .nil
  | _, _, _ + 1, .nil => .nil
  | _, _, n + 1, .cons r t => .cons r (Vals.take n t)
theorem Vals.drop : ∀ {xs : List V} {us : List Value} (n : Nat), Vals xs us → Vals (xs.drop n) (us.drop n)
  | _, _, 0, r => r
  | _, _, _ + 1, .nil => .nil
  | _, _, n + 1, .cons _ t => Vals.drop n t
def RelO : Option V → Option Value → Prop
  | some v, some u => RelV v u
  | none, none => True
  | _, _ => False
def KV {κ : Type} : List (κ × V) → List (κ × Value) → Prop := Paired fun (p : κ × V) (q : κ × Value) => p.1 = q.1 ∧ RelV p.2 q.2

/-- a key of a dict (00_mix): an int or a text -/
def kV : Key → V
  | .inl i => .int i
  | .inr x => .str x

/-- what stands at a tracked address -/
inductive HO where
  /-- a list -/
  | lst (xs : List V)
  /-- a tuple (never changes) -/
  | tup (xs : List V)
  /-- a dict whose keys are ints and texts; one whose keys are tuples of ints and texts (the empty one is both) -/
  | dK (kvs : List (Key × V)) | dT (kvs : List (List Key × V))
  /-- a set of ints: its members, its size -/
  | set (S : Int → Bool) (n : Nat)
  /-- an instance of the class at C, its dict at dx, its attributes -/
  | ins (C dx : Addr) (fs : List (Str × V))
  /-- the dict of the instance at x -/
  | own (x : Addr)
  /-- the dict of an exception -/
  | xd (fs : List (Str × V))
  /-- a bound method, f of x -/
  | met (f x : Addr)
  /-- a range object lo, lo + 1, .. below hi -/
  | rng (lo hi : Int)
  /-- a thing that is known to the object (the script; a dict while a loop walks it): read, never written while it is so -/
  | frz (o : Obj) (u : HO)
  /-- a code object's table -/
  | tbl (ps : Array Value)
  /-- any other thing, by what is true of its one object (a def of one's own: SetO a S n := HO.ext fun h => ..) -/
  | ext (φ : Heap → Prop)

abbrev Hp := Addr → Option HO
def upd (H : Hp) (a : Addr) (o : HO) : Hp := fun b => if b = a then some o else H b
theorem upd_same {H : Hp} {a : Addr} {o : HO} : upd H a o a = some o := by unfold upd; rw [if_pos rfl]
theorem upd_ne {H : Hp} {a b : Addr} {o : HO} (h : b ≠ a) : upd H a o b = H b := by unfold upd; rw [if_neg h]
theorem upd_upd {H : Hp} {a : Addr} {o u : HO} : upd (upd H a o) a u = upd H a u := by
  funext b; unfold upd; split <;> rfl
/-- two objects of different content stand apart -/
theorem ne_of {H : Hp} {a b : Addr} {o u : HO} (h : H a = some o) (h' : H b = some u) (d : o ≠ u) : a ≠ b := by
  intro e; subst e; rw [h] at h'; exact d (Option.some.inj h')
theorem ne_of_none {H : Hp} {a b : Addr} {o : HO} (h : H a = some o) (h' : H b = none) : a ≠ b := by
  intro e; subst e; rw [h] at h'; cases h'

section
variable (P : Program) (w : World)
def ObjOk (H : Hp) (h : Heap) (a : Addr) : HO → Prop
  | .lst xs => xs.length ≤ sizeLine ∧ ∃ (its : List Value) (n : Nat), Vals xs its ∧ h.get? a = some { cls := .type "list", data := .seq its.toArray n }
  | .tup xs => xs.length ≤ sizeLine ∧ ∃ its : List Value, Vals xs its ∧ IsTup h a its.toArray
  | .dK kvs => kvs.length ≤ sizeLine ∧ (a == sysModules) = false ∧ ∃ vs, KV kvs vs ∧ h.DictOf (mixKind P w) a vs
  | .dT kvs => kvs.length ≤ sizeLine ∧ (a == sysModules) = false ∧ ∃ xs : List (List Key × Addr × Value),
      Paired (fun (p : List Key × V) (q : List Key × Addr × Value) => p.1 = q.1 ∧ H q.2.1 = some (.tup (p.1.map kV)) ∧ RelV p.2 q.2.2) kvs xs ∧
      ∃ o es ep, h.get? a = some o ∧ o.ExactDict ∧ o.data = .dict es ep ∧ es.toList = xs.map (entryOfKey (tupleKind (mixKind P w))) ∧ (xs.map (·.1)).Nodup
  | .set S n => h.SetOf (intKind P w) a S n
  | .ins C dx fs => H dx = some (.own a) ∧ fs.length ≤ 1000 ∧ dx ≠ a ∧ h.get? a = some (PySem.W.instObj C dx) ∧
      ∃ mA, h.Ns1 dx mA ∧ (∀ f, RelO (fs.lookup f) (mA f)) ∧ PySem.Within mA (fs.map (·.1))
  | .own _ => ∃ o, h.get? a = some o
  | .xd fs => ∃ mA, h.Ns1 a mA ∧ ∀ f, RelO (fs.lookup f) (mA f)
  | .rng lo hi => ∃ t u v, h.get? a = some { cls := .type "range", data := .fields #[.int lo t, .int hi u, .int 1 v] }
  | .frz o u => h.get? a = some o ∧ ObjOk H h a u
  | .tbl ps => h.get? a = some { cls := .none, data := .fields ps }
  | .met f x => h.get? a = some (PySem.W.methodObj (.ref f) (.ref x))
  | .ext φ => φ h ∧ (∃ o, h.get? a = some o) ∧ ∀ h1 h2 : Heap, φ h1 → (∀ o, h1.get? a = some o → h2.get? a = some o) → φ h2
/-- the abstract heap is held -/
def HOk (H : Hp) (h : Heap) : Prop := ∀ a o, H a = some o → ObjOk P w H h a o
end

section
variable {P : Program} {w : World} {H H' : Hp} {h h' : Heap} {a : Addr} {o : HO}
theorem ObjOk.lt (x : ObjOk P w H h a o) : a < h.objs.size := by
  cases o with
  | lst xs => obtain ⟨_, _, _, _, e⟩ := x; exact Heap.lt_size e
  | tup xs => obtain ⟨_, _, _, p⟩ := x; exact p.lt
  | dK kvs => obtain ⟨_, _, _, _, o, _, _, e, _⟩ := x; exact Heap.lt_size e
  | dT kvs => obtain ⟨_, _, _, _, o, _, _, e, _⟩ := x; exact Heap.lt_size e
  | set S n => obtain ⟨o, _, _, _, e, _⟩ := x; exact Heap.lt_size e
  | ins C dx fs => obtain ⟨_, _, _, e, _⟩ := x; exact Heap.lt_size e
  | own y => obtain ⟨_, e⟩ := x; exact Heap.lt_size e
  | xd fs => obtain ⟨_, ⟨_, _, _, e, _⟩, _⟩ := x; exact Heap.lt_size e
  | rng lo hi => obtain ⟨_, _, _, e⟩ := x; exact Heap.lt_size e
  | frz ob u => obtain ⟨e, _⟩ := x; exact Heap.lt_size e
  | tbl ps => exact Heap.lt_size (show h.get? a = some _ from x)
  | met f y => exact Heap.lt_size (show h.get? a = some _ from x)
  | ext φ => obtain ⟨_, ⟨_, e⟩, _⟩ := x; exact Heap.lt_size e
theorem Paired.mapP {α β : Type} {F G : α → β → Prop} : ∀ {l₁ : List α} {l₂ : List β}, Paired F l₁ l₂ → (∀ a b, F a b → G a b) → Paired G l₁ l₂
  | _, _, .nil, _ => .nil
  | _, _, .cons r t, f => .cons (f _ _ r) (Paired.mapP t f)
/-- what an object's description leans on: its own object, its own dict, the tuples -/
theorem ObjOk.stay (x : ObjOk P w H h a o) (k : ∀ b u, (b = a ∨ H b = some (.own a)) → h.get? b = some u → h'.get? b = some u)
    (ho : ∀ b, H b = some (.own a) → H' b = some (.own a)) (ht : ∀ b xs, H b = some (.tup xs) → H' b = some (.tup xs)) : ObjOk P w H' h' a o := by
  induction o with
  | lst xs => obtain ⟨z, its, n, r, e⟩ := x; exact ⟨z, its, n, r, k _ _ (.inl rfl) e⟩
  | tup xs => obtain ⟨z, its, r, ob, e, c⟩ := x; exact ⟨z, its, r, ob, k _ _ (.inl rfl) e, c⟩
  | dK kvs => obtain ⟨z, y, vs, r, ob, es, ep, e, c⟩ := x; exact ⟨z, y, vs, r, ob, es, ep, k _ _ (.inl rfl) e, c⟩
  | dT kvs =>
    obtain ⟨z, y, xs, r, ob, es, ep, e, c⟩ := x
    exact ⟨z, y, xs, Paired.mapP r fun p q z => ⟨z.1, ht _ _ z.2.1, z.2.2⟩, ob, es, ep, k _ _ (.inl rfl) e, c⟩
  | set S n => obtain ⟨ob, es, ep, t, e, c⟩ := x; exact ⟨ob, es, ep, t, k _ _ (.inl rfl) e, c⟩
  | ins C dx fs =>
    obtain ⟨d, z, ne, e, mA, ⟨od, es, ep, e2, c⟩, r⟩ := x
    exact ⟨ho _ d, z, ne, k _ _ (.inl rfl) e, mA, ⟨od, es, ep, k _ _ (.inr d) e2, c⟩, r⟩
  | own y => obtain ⟨ob, e⟩ := x; exact ⟨ob, k _ _ (.inl rfl) e⟩
  | xd fs => obtain ⟨mA, ⟨od, es, ep, e, c⟩, r⟩ := x; exact ⟨mA, ⟨od, es, ep, k _ _ (.inl rfl) e, c⟩, r⟩
  | rng lo hi => obtain ⟨t, u, v, e⟩ := x; exact ⟨t, u, v, k _ _ (.inl rfl) e⟩
  | frz ob u ih => obtain ⟨e, q⟩ := x; exact ⟨k _ _ (.inl rfl) e, ih q⟩
  | tbl ps =>
    have e : h.get? a = some { cls := .none, data := .fields ps } := x
    show h'.get? a = some { cls := .none, data := .fields ps }
    exact k a _ (.inl rfl) e
  | met f y =>
    have e : h.get? a = some (PySem.W.methodObj (.ref f) (.ref y)) := x
    show h'.get? a = some (PySem.W.methodObj (.ref f) (.ref y))
    exact k a _ (.inl rfl) e
  | ext φ => obtain ⟨p, ⟨o, e⟩, st⟩ := x; exact ⟨st _ _ p fun o q => k _ _ (.inl rfl) q, ⟨o, k _ _ (.inl rfl) e⟩, st⟩
theorem HOk.lt (x : HOk P w H h) (e : H a = some o) : a < h.objs.size := (x a o e).lt
theorem HOk.fresh (x : HOk P w H h) (e : h.objs.size ≤ a) : H a = none := by
  cases q : H a with
  | none => rfl
  | some u => exact absurd (Nat.lt_of_lt_of_le (x.lt q) e) (Nat.lt_irrefl _)
/-- every object of the heap is kept -/
theorem HOk.kept (x : HOk P w H h) (k : ∀ b u, h.get? b = some u → h'.get? b = some u) : HOk P w H h' := fun a o e =>
  (x a o e).stay (fun b u _ q => k b u q) (fun _ q => q) fun _ _ q => q
/-- a new object is laid and tracked -/
theorem HOk.laid (x : HOk P w H h) (k : ∀ b u, h.get? b = some u → h'.get? b = some u) (hp : h.objs.size ≤ a) (new : ObjOk P w (upd H a o) h' a o) : HOk P w (upd H a o) h' := fun b u e => by
  have hn := x.fresh hp
  by_cases hb : b = a
  · subst hb; rw [upd_same] at e; cases e; exact new
  · rw [upd_ne hb] at e
    exact (x b u e).stay (fun c v _ q => k c v q) (fun c q => by rw [upd_ne (ne_of_none q hn)]; exact q) fun c xs q => by rw [upd_ne (ne_of_none q hn)]; exact q
end

/-- what may be read as u: it is u, or a known u -/
def Rd (H : Hp) (a : Addr) (u : HO) : Prop := H a = some u ∨ ∃ o, H a = some (.frz o u)
theorem Rd.ok {P : Program} {w : World} {H : Hp} {h : Heap} {a : Addr} {u : HO} (r : Rd H a u) (x : HOk P w H h) : ObjOk P w H h a u := by
  rcases r with r | ⟨o, r⟩
  · exact x a u r
  · obtain ⟨_, q⟩ := x a _ r
    exact q
/-- what may be written -/
def Mut : Option HO → Prop
  | some (.lst _) => True
  | some (.dK _) => True
  | some (.dT _) => True
  | some (.set _ _) => True
  | some (.ins _ _ _) => True
  | some (.ext _) => True
  | _ => False
section
variable {P : Program} {w : World} {H : Hp} {h h' : Heap} {x e : Addr} {o' : HO}
/-- the object at e is changed: x itself, or the dict of the instance x -/
theorem HOk.write (ok : HOk P w H h) (mu : Mut (H x)) (he : e = x ∨ H e = some (.own x)) (k : ∀ b u, b ≠ e → h.get? b = some u → h'.get? b = some u) (heo : ∃ u, h'.get? e = some u)
    (new : ObjOk P w (upd H x o') h' x o') : HOk P w (upd H x o') h' := fun b u q => by
  have nown : ∀ c y, H c = some (.own y) → c ≠ x := fun c y r z => by subst z; rw [r] at mu; exact mu
  have ntup : ∀ c xs, H c = some (.tup xs) → c ≠ x := fun c xs r z => by subst z; rw [r] at mu; exact mu
  by_cases hb : b = x
  · subst hb; rw [upd_same] at q; cases q; exact new
  · rw [upd_ne hb] at q
    by_cases hbe : b = e
    · have q' : H b = some (.own x) := by
        rcases he with z | z
        · exact absurd (hbe.trans z) hb
        · rw [hbe]; exact z
      rw [q] at q'; cases q'
      obtain ⟨v, hv⟩ := heo
      exact ⟨v, by rw [hbe]; exact hv⟩
    · refine (ok b u q).stay (fun c v hc r => k c v ?_ r) (fun c r => by rw [upd_ne (nown c b r)]; exact r) fun c xs r => by rw [upd_ne (ntup c xs r)]; exact r
      rcases hc with rfl | hc
      · exact hbe
      · rintro rfl
        rcases he with z | z
        · exact nown c b hc z
        · rw [hc] at z; cases z; exact hb rfl
end

/-! ### kept unless tracked; of the frames at fs (the callers') the slots may change (an exception that passes writes there); of the records at ex (iterators) nothing is said -/
structure Un (fs ex : List Addr) (H H' : Hp) (h h' : Heap) : Prop where
  keep : ∀ b o, h.get? b = some o → H b = none → b ∉ fs → b ∉ ex → h'.get? b = some o
  slot : ∀ b o, h.get? b = some o → H b = none → b ∈ fs → b ∉ ex → ∃ sl, h'.get? b = some { o with slots := sl }
  free : ∀ b o, h.get? b = some o → H b = none → b ∉ ex → H' b = none
  there : ∀ b o, h.get? b = some o → b ∉ ex → ∃ o', h'.get? b = some o'
  tups : ∀ b xs, H b = some (.tup xs) → H' b = some (.tup xs)
  frzs : ∀ b o u, H b = some (.frz o u) → H' b = some (.frz o u)
  tbls : ∀ b ps, H b = some (.tbl ps) → ∃ more, H' b = some (.tbl (ps ++ more))
section
variable {fs fs' ex ex' : List Addr} {H H1 H2 : Hp} {h h1 h2 h' : Heap} {a x e : Addr} {o : HO}
theorem Un.any (u : Un fs ex H H1 h h1) {b : Addr} {ob : Obj} (q : h.get? b = some ob) (n : H b = none) (hx : b ∉ ex) : ∃ sl, h1.get? b = some { ob with slots := sl } := by
  by_cases hb : b ∈ fs
  · exact u.slot b ob q n hb hx
  · exact ⟨ob.slots, u.keep b ob q n hb hx⟩
theorem Un.kept (k : ∀ b u, h.get? b = some u → h'.get? b = some u) : Un fs ex H H h h' :=
  ⟨fun b ob q _ _ _ => k b ob q, fun b ob q _ _ _ => ⟨ob.slots, k b ob q⟩, fun _ _ _ n _ => n, fun b ob q _ => ⟨ob, k b ob q⟩, fun _ _ q => q, fun _ _ _ q => q, fun _ ps q => ⟨#[], by rw [q]; simp⟩⟩
theorem Un.refl : Un fs ex H H h h := Un.kept fun _ _ q => q
theorem Un.laid (k : ∀ b u, h.get? b = some u → h'.get? b = some u) (hp : h.objs.size ≤ a) (hn : H a = none) : Un fs ex H (upd H a o) h h' where
  keep := fun b u q _ _ _ => k b u q
  slot := fun b u q _ _ _ => ⟨u.slots, k b u q⟩
  free := fun b u q n _ => by rw [upd_ne (Nat.ne_of_lt (Nat.lt_of_lt_of_le (Heap.lt_size q) hp))]; exact n
  there := fun b u q _ => ⟨u, k b u q⟩
  tups := fun b xs q => by rw [upd_ne (ne_of_none q hn)]; exact q
  frzs := fun b u xs q => by rw [upd_ne (ne_of_none q hn)]; exact q
  tbls := fun b ps q => ⟨#[], by rw [upd_ne (ne_of_none q hn), q]; simp⟩
theorem Un.write (mu : Mut (H x)) (he : e = x ∨ H e = some (.own x)) (k : ∀ b u, b ≠ e → h.get? b = some u → h'.get? b = some u) (heo : ∃ u, h'.get? e = some u) : Un fs ex H (upd H x o) h h' := by
  have hx : ∀ b, H b = none → b ≠ x := fun b n z => by subst z; rw [n] at mu; exact mu
  have hb : ∀ b, H b = none → b ≠ e := fun b n z => by
    subst z
    rcases he with r | r
    · exact hx b n r
    · rw [n] at r; cases r
  have hm : ∀ b u, H b = some u → ¬ Mut (some u) → b ≠ x := fun b u q nm z => by subst z; rw [q] at mu; exact nm mu
  refine ⟨fun b u q n _ _ => k b u (hb b n) q, fun b u q n _ _ => ⟨u.slots, k b u (hb b n) q⟩, fun b u q n _ => by rw [upd_ne (hx b n)]; exact n, fun b u q _ => ?_,
    fun b xs q => by rw [upd_ne (hm b _ q fun z => z)]; exact q, fun b u xs q => by rw [upd_ne (hm b _ q fun z => z)]; exact q, fun b ps q => ⟨#[], by rw [upd_ne (hm b _ q fun z => z), q]; simp⟩⟩
  by_cases hbe : b = e
  · subst hbe; exact heo
  · exact ⟨u, k b u hbe q⟩
end

/-! ### the heap without what is tracked -/
def trk (h : Heap) (H : Hp) : List Addr := (List.range h.objs.size).filter fun a => (H a).isSome
def hidT (h : Heap) (H : Hp) : Heap := PySem.W.hideAll h (trk h H)
theorem hidT_size (h : Heap) (H : Hp) : (hidT h H).objs.size = h.objs.size := PySem.W.hideAll_size _ _
theorem hidT_get {h : Heap} {H : Hp} {b : Addr} {o : Obj} (e : h.get? b = some o) (n : H b = none) : (hidT h H).get? b = some o :=
  PySem.W.hideAll_get _ e fun hm => by
    have q : (H b).isSome = true := (List.mem_filter.mp hm).2
    rw [n] at q; simp at q
theorem of_hidT {h : Heap} {H : Hp} {b : Addr} {o : Obj} (e : (hidT h H).get? b = some o) : h.get? b = some o ∧ H b = none := by
  have e' : h.get? b = some o := PySem.W.of_hideAll (trk h H) e
  refine ⟨e', ?_⟩
  cases q : H b with
  | none => rfl
  | some x =>
    have hm : b ∈ trk h H := List.mem_filter.mpr ⟨List.mem_range.mpr (Heap.lt_size e'), by simp [q]⟩
    have z : (hidT h H).get? b = none := PySem.W.hideAll_none (trk h H) hm
    rw [z] at e; cases e

/-! ### OpenK's ledger, filled with every new object but one -/
end L2

namespace L2
open PySem PySem.Spec PyProof.Rows

/-- the module's facts, over the base: the heap at the law's entry without what is tracked there -/
structure Mod (K : PySem.W.Frag) (mg : Str → Option Value) (base : Heap) : Prop where
  kin : K.In base
  glob : base.Ns mainGlobals mg
  blt : ∃ mb, base.Ns builtinsNs mb ∧ ∀ x : Str, x ≠ "__name__" → mb x = bootBuiltins x
  nolimit : base.NoLimit

/-- the context: a def's body (or a comprehension's block) running. base: fixed through the whole law; s₀, H₀: the entry; outer: the frames whose slots others may change (a def's callers); stack: all frames that run;
   ex: iterators that were made ahead of the entry and are walked here (a comprehension's); fn: the names whose cells were made at the entry (a def: all; a comprehension's block: its own); calm: not within an except suite; pn: pins that every state bears; xe: what is wanted of an exception that leaves the code -/
structure Cx where
  prog : Program
  w : World
  K : PySem.W.Frag
  mg : Str → Option Value
  base : Heap
  A : Around
  N : List Str
  s_0 : Shared
  H_0 : Hp
  env : Env
  outer : List Env
  stack : List Env
  ex : List Addr
  fn : Str → Bool
  calm : Bool
  pn : List (Addr × Obj)
  xe : Value → Shared → Prop
/-- the callers' frames -/
def frs (l : List Env) : List Addr := l.filterMap (·.frame)
abbrev Cx.fs (X : Cx) : List Addr := frs X.outer

def Vis (sc : Scope) (x : Str) : Prop := sc.names.lookup x = some .local ∨ sc.names.lookup x = some .cell ∨ sc.names.lookup x = some .free
def Loc (sc : Scope) (x : Str) : Prop := sc.names.lookup x = some .local ∨ sc.names.lookup x = some .cell
def Look (env : Env) (h : Heap) (m : Str → Option Value) (x : Str) (u : Value) : Prop :=
  (env.kindOf x = some .local ∧ m x = some u) ∨ ((env.kindOf x = some .cell ∨ env.kindOf x = some .free) ∧ ∃ c, env.cells.lookup x = some c ∧ h.IsCell c (some u))

structure Cx.Ok (X : Cx) : Prop where
  mod : Mod X.K X.mg X.base
  kind : X.env.scope.kind = .function
  glob : X.env.globals = mainGlobals
  blt : X.env.builtins = builtinsNs
  above : X.s_0.heap.objs.size ≤ X.env.locals
  inj : ∀ x y c, X.env.cells.lookup x = some c → X.env.cells.lookup y = some c → x = y
  has : ∀ x, (X.env.kindOf x = some .cell ∨ X.env.kindOf x = some .free) → ∃ c, X.env.cells.lookup x = some c
  cab : ∀ x c, X.fn x = true → X.env.cells.lookup x = some c → X.s_0.heap.objs.size ≤ c
  hd : X.calm = true → X.A.handled = none
  frames : X.A.frames = some X.stack
  stk : X.stack = X.outer ∨ (X.stack = X.env :: X.outer ∧ X.env.frame = some X.env.locals)
  exf : ∀ b ∈ X.ex, b ≠ X.env.locals ∧ ∀ x c, X.env.cells.lookup x = some c → c ≠ b
  bs : ∀ b o, X.base.get? b = some o → X.s_0.heap.get? b = some o ∧ X.H_0 b = none
  bsz : X.base.objs.size ≤ X.s_0.heap.objs.size
  noex : ∀ b o, X.base.get? b = some o → b ∉ X.ex
  exfs : ∀ b ∈ X.ex, b ∉ X.fs
  funs : X.s_0.heap.FunFrames X.base X.outer
  frf : ∀ b ∈ X.fs, X.H_0 b = none

structure Inv (X : Cx) (pins : List (Addr × Obj)) (σ : List (Option V)) (H : Hp) (s : Shared) : Prop where
  ok : X.Ok
  os : s.os = X.s_0.os
  bare : AllBare s.gens
  base : Un X.fs X.ex X.H_0 H X.s_0.heap s.heap
  loc : ∃ m, s.heap.Ns X.env.locals m ∧ ∀ (i : Nat) (x : Str) (v : V), X.N[i]? = some x → σ[i]? = some (some v) → Vis X.env.scope x → ∃ u, RelV v u ∧ Look X.env s.heap m x u
  cell : ∀ x c, X.env.cells.lookup x = some c → ∃ v, s.heap.IsCell c v
  free : H X.env.locals = none
  freeC : ∀ x c, X.env.cells.lookup x = some c → H c = none
  pin : ∀ p ∈ X.pn ++ pins, s.heap.get? p.1 = some p.2 ∧ H p.1 = none ∧ p.1 ≠ X.env.locals ∧ p.1 ∉ X.fs ∧ ∀ v, p.2.data ≠ .cell v
  hok : HOk X.prog X.w H s.heap
  len : σ.length = X.N.length

section
variable {X : Cx} {pins : List (Addr × Obj)} {σ : List (Option V)} {H H' : Hp} {s : Shared} {h' : Heap}

theorem Cx.Ok.nofr (ok : X.Ok) {b : Addr} {o : Obj} (e : X.base.get? b = some o) : b ∉ X.fs := fun hb => by
  have := (ok.funs.mem hb).1
  rw [e] at this; cases this
theorem Inv.bs (I : Inv X pins σ H s) : ∀ b o, X.base.get? b = some o → s.heap.get? b = some o ∧ H b = none := fun b o e =>
  ⟨I.base.keep b o (I.ok.bs b o e).1 (I.ok.bs b o e).2 (I.ok.nofr e) (I.ok.noex b o e), I.base.free b o (I.ok.bs b o e).1 (I.ok.bs b o e).2 (I.ok.noex b o e)⟩
theorem Inv.bk (I : Inv X pins σ H s) : ∀ b o, X.base.get? b = some o → s.heap.get? b = some o := fun b o e => (I.bs b o e).1
theorem Inv.mod (I : Inv X pins σ H s) : Mod X.K X.mg X.base := I.ok.mod
theorem Inv.kIn (I : Inv X pins σ H s) : X.K.In s.heap := I.ok.mod.kin.keeps I.bk
/-- the frame over the base: for OpenK's rules (K.In X.base is I.mod.kin) -/
theorem Inv.fr (I : Inv X pins σ H s) : ∃ m, Fr X.base X.env.locals s.heap m :=
  let ⟨m, hn, _⟩ := I.loc
  ⟨m, hn, I.bk, Nat.le_trans I.ok.bsz I.ok.above⟩
theorem Inv.lt (I : Inv X pins σ H s) : X.env.locals < s.heap.objs.size := let ⟨_, hn, _⟩ := I.loc; hn.lt
theorem Inv.sz (I : Inv X pins σ H s) : X.s_0.heap.objs.size ≤ s.heap.objs.size := Nat.le_trans I.ok.above (Nat.le_of_lt I.lt)
theorem Inv.nofs (I : Inv X pins σ H s) {a : Addr} (h : s.heap.objs.size ≤ a) : a ∉ X.fs := fun hb => by
  obtain ⟨_, o, ho, _⟩ := I.ok.funs.mem hb
  exact absurd (Nat.lt_of_lt_of_le (Heap.lt_size ho) (Nat.le_trans I.sz h)) (Nat.lt_irrefl _)
theorem Inv.cne (I : Inv X pins σ H s) : ∀ x c, X.env.cells.lookup x = some c → c ≠ X.env.locals := fun x c e z => by
  obtain ⟨v, o, ho, hd⟩ := I.cell x c e
  obtain ⟨m, ⟨o', es, ep, ho', hd', _⟩, _⟩ := I.loc
  rw [z, ho'] at ho; cases ho; rw [hd'] at hd; cases hd
theorem Inv.funs (I : Inv X pins σ H s) : s.heap.FunFrames X.base X.outer := by
  have all : ∀ (l : List Env), (∀ b ∈ frs l, b ∈ X.fs) → X.s_0.heap.FunFrames X.base l → s.heap.FunFrames X.base l := by
    intro l
    induction l with
    | nil => intro _ _; trivial
    | cons env r ih =>
      intro hs hl
      obtain ⟨hk, ⟨L, o, hf, hn, ho, hd⟩, hr⟩ := hl
      have hL : L ∈ X.fs := hs L (by unfold frs; rw [List.filterMap_cons, hf]; exact List.mem_cons_self)
      obtain ⟨sl, e⟩ := I.base.slot L o ho (I.ok.frf L hL) hL fun z => I.ok.exfs L z hL
      exact ⟨hk, ⟨L, _, hf, hn, e, hd⟩, ih (fun b hb => hs b (by unfold frs; rw [List.filterMap_cons, hf]; exact List.mem_cons_of_mem _ hb)) hr⟩
  exact all X.outer (fun _ hb => hb) I.ok.funs

/-- the frames that run, for a call -/
theorem Inv.stack (I : Inv X pins σ H s) : s.heap.FunFrames X.base X.stack := by
  rcases I.ok.stk with e | ⟨e, hf⟩
  · rw [e]; exact I.funs
  · rw [e]
    obtain ⟨m, hn, _⟩ := I.loc
    refine .cons (by rw [I.ok.kind]; decide) hf hn ?_ I.funs
    exact Heap.get?_none_of_le (Nat.le_trans I.ok.bsz I.ok.above)
theorem Inv.stkSub (I : Inv X pins σ H s) : ∀ b ∈ frs X.stack, b ∈ X.env.locals :: X.fs := fun b hb => by
  rcases I.ok.stk with e | ⟨e, hf⟩
  · rw [e] at hb; exact List.mem_cons_of_mem _ hb
  · rw [e] at hb
    unfold frs at hb
    rw [List.filterMap_cons, hf] at hb
    exact hb
theorem Inv.stkFree (I : Inv X pins σ H s) : ∀ b ∈ frs X.stack, H b = none := fun b hb => by
  rcases List.mem_cons.mp (I.stkSub b hb) with e | hb
  · rw [e]; exact I.free
  · obtain ⟨_, o, ho, _⟩ := I.ok.funs.mem hb
    exact I.base.free b o ho (I.ok.frf b hb) fun z => I.ok.exfs b z hb

/-- THE STEP: the untracked objects but the frame and the records at ch are kept (the callers' frames up to slots), the frame's map is kept, the new abstract heap is held -/
theorem Inv.step {g' : Array GenState} {t' : Nat} {d' : Drawn} {ch : List Addr} (I : Inv X pins σ H s)
    (hch : ∀ b ∈ ch, (b ∈ X.ex ∨ X.s_0.heap.objs.size ≤ b) ∧ b ≠ X.env.locals ∧ (∀ x c, X.env.cells.lookup x = some c → c ≠ b) ∧ ∀ p ∈ X.pn ++ pins, p.1 ≠ b)
    (keep : ∀ b o, b ≠ X.env.locals → b ∉ X.fs → b ∉ ch → s.heap.get? b = some o → H b = none → h'.get? b = some o)
    (slot : ∀ b o, b ≠ X.env.locals → b ∈ X.fs → b ∉ ch → s.heap.get? b = some o → H b = none → ∃ sl, h'.get? b = some { o with slots := sl }) (free : ∀ b o, b ∉ ch → s.heap.get? b = some o → H b = none → H' b = none)
    (there : ∀ b o, b ∉ ch → s.heap.get? b = some o → ∃ o', h'.get? b = some o')
    (tups : ∀ b xs, H b = some (.tup xs) → H' b = some (.tup xs)) (frzs : ∀ b o u, H b = some (.frz o u) → H' b = some (.frz o u)) (tbls : ∀ b ps, H b = some (.tbl ps) → ∃ more, H' b = some (.tbl (ps ++ more)))
    (ns : ∀ m, s.heap.Ns X.env.locals m → h'.Ns X.env.locals m) (hok : HOk X.prog X.w H' h') (hg : AllBare g') :
    Inv X pins σ H' { s with heap := h', gens := g', drawn := d', toks := t' } := by
  have neL : ∀ b o, X.s_0.heap.get? b = some o → b ≠ X.env.locals := fun b o e => Nat.ne_of_lt (Nat.lt_of_lt_of_le (Heap.lt_size e) I.ok.above)
  have neC : ∀ b o, X.s_0.heap.get? b = some o → b ∉ X.ex → b ∉ ch := fun b o e hx hb => by
    rcases (hch b hb).1 with z | z
    · exact hx z
    · exact absurd (Nat.lt_of_lt_of_le (Heap.lt_size e) z) (Nat.lt_irrefl _)
  have cellK : ∀ x c, X.env.cells.lookup x = some c → ∀ v, s.heap.IsCell c v → h'.IsCell c v := fun x c e v ⟨o, ho, hd⟩ => by
    have nch : c ∉ ch := fun z => (hch c z).2.2.1 x c e rfl
    by_cases hc : c ∈ X.fs
    · obtain ⟨sl, q⟩ := slot c o (I.cne x c e) hc nch ho (I.freeC x c e)
      exact ⟨_, q, hd⟩
    · exact ⟨o, keep c o (I.cne x c e) hc nch ho (I.freeC x c e), hd⟩
  refine ⟨I.ok, I.os, hg, ⟨fun b o e n hb hx => ?_, fun b o e n hb hx => ?_, fun b o e n hx => ?_, fun b o e hx => ?_, fun b xs e => tups b xs (I.base.tups b xs e), fun b o xs e => frzs b o xs (I.base.frzs b o xs e), fun b ps e => ?_⟩, ?_, fun x c e => ?_, ?_, fun x c e => ?_, fun p hp => ?_, hok, I.len⟩
  · exact keep b o (neL b o e) hb (neC b o e hx) (I.base.keep b o e n hb hx) (I.base.free b o e n hx)
  · obtain ⟨sl, e1⟩ := I.base.slot b o e n hb hx
    obtain ⟨sl', e2⟩ := slot b _ (neL b o e) hb (neC b o e hx) e1 (I.base.free b o e n hx)
    exact ⟨sl', e2⟩
  · obtain ⟨o', e1⟩ := I.base.there b o e hx
    exact free b o' (neC b o e hx) e1 (I.base.free b o e n hx)
  · obtain ⟨o', e1⟩ := I.base.there b o e hx
    exact there b o' (neC b o e hx) e1
  · obtain ⟨m1, e1⟩ := I.base.tbls b ps e
    obtain ⟨m2, e2⟩ := tbls b _ e1
    exact ⟨m1 ++ m2, by rw [e2, Array.append_assoc]⟩
  · obtain ⟨m, hn, hl⟩ := I.loc
    refine ⟨m, ns m hn, fun i x v e1 e2 e3 => ?_⟩
    obtain ⟨u, r, l⟩ := hl i x v e1 e2 e3
    refine ⟨u, r, ?_⟩
    rcases l with l | ⟨k, c, e, z⟩
    · exact .inl l
    · exact .inr ⟨k, c, e, cellK x c e _ z⟩
  · obtain ⟨v, z⟩ := I.cell x c e
    exact ⟨v, cellK x c e v z⟩
  · obtain ⟨m, ⟨o, _, _, ho, _⟩, _⟩ := I.loc
    exact free _ o (fun z => (hch _ z).2.1 rfl) ho I.free
  · obtain ⟨v, o, ho, hd⟩ := I.cell x c e
    exact free c o (fun z => (hch c z).2.2.1 x c e rfl) ho (I.freeC x c e)
  · obtain ⟨e, n, ne, nf, d⟩ := I.pin p hp
    have nch : p.1 ∉ ch := fun z => (hch p.1 z).2.2.2 p hp rfl
    exact ⟨keep p.1 p.2 ne nf nch e n, free p.1 p.2 nch e n, ne, nf, d⟩
/-- .. where the frame's own object is kept too -/
theorem Inv.un {t' : Nat} (I : Inv X pins σ H s) (u : Un X.fs [] H H' s.heap h') (hok : HOk X.prog X.w H' h') : Inv X pins σ H' { s with heap := h', toks := t' } := by
  obtain ⟨m, ⟨o, es, ep, ho, r⟩, _⟩ := id I.loc
  obtain ⟨sl, hL⟩ := u.any ho I.free (by simp)
  exact I.step (g' := s.gens) (d' := s.drawn) (ch := []) (fun _ z => nomatch z) (fun b o _ hb _ e n => u.keep b o e n hb (by simp)) (fun b o _ hb _ e n => u.slot b o e n hb (by simp)) (fun b o _ e n => u.free b o e n (by simp)) (fun b o _ e => u.there b o e (by simp)) u.tups u.frzs u.tbls (fun m' hm => by
    obtain ⟨o', es', ep', ho', r'⟩ := hm
    rw [ho] at ho'; cases ho'
    exact ⟨_, es', ep', hL, r'⟩) hok I.bare
/-- behind a call (or a comprehension's block): the slots of this frame may have changed too, the records at ch may have turned -/
theorem Inv.call {g' : Array GenState} {t' : Nat} {d' : Drawn} {ch : List Addr} (I : Inv X pins σ H s) (u : Un (frs X.stack) ch H H' s.heap h') (hok : HOk X.prog X.w H' h') (hg : AllBare g')
    (hch : ∀ b ∈ ch, (b ∈ X.ex ∨ X.s_0.heap.objs.size ≤ b) ∧ b ≠ X.env.locals ∧ (∀ x c, X.env.cells.lookup x = some c → c ≠ b) ∧ ∀ p ∈ X.pn ++ pins, p.1 ≠ b) :
    Inv X pins σ H' { s with heap := h', gens := g', drawn := d', toks := t' } := by
  obtain ⟨m, ⟨o, es, ep, ho, r⟩, _⟩ := id I.loc
  obtain ⟨sl, hL⟩ := u.any ho I.free fun z => (hch _ z).2.1 rfl
  exact I.step (ch := ch) hch (fun b o hL hb hc e n => u.keep b o e n (fun z => (List.mem_cons.mp (I.stkSub b z)).elim hL hb) hc) (fun b o _ _ hc e n => u.any e n hc) (fun b o hc e n => u.free b o e n hc) (fun b o hc e => u.there b o e hc) u.tups u.frzs u.tbls (fun m' hm => by
    obtain ⟨o', es', ep', ho', r'⟩ := hm
    rw [ho] at ho'; cases ho'
    exact ⟨_, es', ep', hL, r'⟩) hok hg
/-- an untracked record of ours (an iterator) has turned -/
theorem Inv.turned {t' : Nat} {it : Addr} (I : Inv X pins σ H s) (k : ∀ b o, b ≠ it → s.heap.get? b = some o → h'.get? b = some o) (hn : H it = none) (hL : it ≠ X.env.locals)
    (h1 : it ∈ X.ex ∨ X.s_0.heap.objs.size ≤ it) (h2 : ∀ x c, X.env.cells.lookup x = some c → c ≠ it) (h3 : ∀ p ∈ X.pn ++ pins, p.1 ≠ it) : Inv X pins σ H { s with heap := h', toks := t' } := by
  have nit : ∀ b u, H b = some u → b ≠ it := fun b u e z => by rw [z, hn] at e; cases e
  refine I.step (g' := s.gens) (d' := s.drawn) (ch := [it]) (fun b hb => ?_) (fun b o _ _ hc e _ => k b o (fun z => hc (by simp [z])) e) (fun b o _ _ hc e _ => ⟨o.slots, k b o (fun z => hc (by simp [z])) e⟩) (fun _ _ _ _ n => n)
    (fun b o hc e => ⟨o, k b o (fun z => hc (by simp [z])) e⟩) (fun _ _ e => e) (fun _ _ _ e => e) (fun b ps e => ⟨#[], by rw [e]; simp⟩) (fun m hm => ?_) (fun b u e => ?_) I.bare
  · have e : b = it := by simpa using hb
    subst e
    exact ⟨h1, hL, h2, h3⟩
  · obtain ⟨o, es, ep, ho, r⟩ := hm
    exact ⟨o, es, ep, k _ o (Ne.symm hL) ho, r⟩
  · refine (I.hok b u e).stay (fun c v hc q => k c v ?_ q) (fun _ q => q) fun _ _ q => q
    rcases hc with z | z
    · rw [z]; exact nit b u e
    · exact nit c _ z
theorem Inv.tok (I : Inv X pins σ H s) (t : Nat) : Inv X pins σ H { s with toks := t } := I.un (h' := s.heap) (t' := t) Un.refl I.hok
/-- all objects kept -/
theorem Inv.kept {t' : Nat} (I : Inv X pins σ H s) (k : ∀ b u, s.heap.get? b = some u → h'.get? b = some u) : Inv X pins σ H { s with heap := h', toks := t' } := I.un (Un.kept k) (I.hok.kept k)
/-- a new object laid and tracked -/
theorem Inv.laid {a : Addr} {o : HO} {t' : Nat} (I : Inv X pins σ H s) (k : ∀ b u, s.heap.get? b = some u → h'.get? b = some u) (hp : s.heap.objs.size ≤ a) (new : ObjOk X.prog X.w (upd H a o) h' a o) :
    Inv X pins σ (upd H a o) { s with heap := h', toks := t' } := I.un (Un.laid k hp (I.hok.fresh hp)) (I.hok.laid k hp new)
/-- an object written -/
theorem Inv.write {x e : Addr} {o : HO} {t' : Nat} (I : Inv X pins σ H s) (mu : Mut (H x)) (he : e = x ∨ H e = some (.own x)) (k : ∀ b u, b ≠ e → s.heap.get? b = some u → h'.get? b = some u) (heo : ∃ u, h'.get? e = some u)
    (new : ObjOk X.prog X.w (upd H x o) h' x o) : Inv X pins σ (upd H x o) { s with heap := h', toks := t' } := I.un (Un.write mu he k heo) (I.hok.write mu he k heo new)
/-- forgetting slots, pins -/
theorem Inv.weak {σ' : List (Option V)} (I : Inv X pins σ H s) (hl : σ'.length = σ.length) (w : ∀ (i : Nat) v, σ'[i]? = some (some v) → σ[i]? = some (some v)) : Inv X pins σ' H s :=
  ⟨I.ok, I.os, I.bare, I.base, let ⟨m, hn, hl'⟩ := I.loc; ⟨m, hn, fun i x v e1 e2 e3 => hl' i x v e1 (w i v e2) e3⟩, I.cell, I.free, I.freeC, I.pin, I.hok, hl.trans I.len⟩
theorem Inv.pins_of {pins' : List (Addr × Obj)} (I : Inv X pins σ H s) (h : ∀ p ∈ pins', s.heap.get? p.1 = some p.2 ∧ H p.1 = none ∧ p.1 ≠ X.env.locals ∧ p.1 ∉ X.fs ∧ ∀ v, p.2.data ≠ .cell v) : Inv X pins' σ H s :=
  ⟨I.ok, I.os, I.bare, I.base, I.loc, I.cell, I.free, I.freeC, fun p hp => (List.mem_append.mp hp).elim (fun z => I.pin p (List.mem_append_left _ z)) (h p), I.hok, I.len⟩

theorem nodup_ix {N : List Str} (hN : N.Nodup) {i j : Nat} {x : Str} (a : N[i]? = some x) (b : N[j]? = some x) : i = j := by
  obtain ⟨h1, e1⟩ := List.getElem?_eq_some_iff.mp a
  obtain ⟨h2, e2⟩ := List.getElem?_eq_some_iff.mp b
  exact (List.getElem_inj hN).mp (e1.trans e2.symm)

/-- a name is stored; what changed -/
theorem store_ok2 {M : Model} {A : Around} {E : Value → Shared → Prop} {i : Nat} {x : Str} {v : V} {u : Value} {Q : Unit → Shared → Prop} (I : Inv X pins σ H s) (hN : X.N.Nodup) (hi : X.N[i]? = some x) (hx : Loc X.env.scope x) (r : RelV v u)
    (h : ∀ s', Inv X pins (σ.set i (some v)) H s' → (∃ a, Heap.SameBut a s.heap s'.heap ∧ (a = X.env.locals ∨ X.env.cells.lookup x = some a)) → Q () s') (hf : X.fn x = true ∨ X.env.scope.names.lookup x = some .local := by first | exact .inl rfl | exact .inr rfl | assumption) : wpAny M A (storeName X.env x u) Q E s := by
  obtain ⟨m, hn, hl⟩ := id I.loc
  have hcls : (X.env.scope.kind == .class || (X.env.scope.kind == .module && X.env.locals != X.env.globals)) = false := by rw [I.ok.kind]; rfl
  have hiσ : i < σ.length := by rw [I.len]; exact (List.getElem?_eq_some_iff.mp hi).1
  have cne := I.cne
  have tracked : ∀ {a : Addr} {h' : Heap}, (∃ o, s.heap.get? a = some o ∧ H a = none) → Heap.SameBut a s.heap h' → HOk X.prog X.w H h' := fun {a h'} ha hs b ob e => by
    obtain ⟨_, _, hfree⟩ := ha
    refine (I.hok b ob e).stay (fun c w' hc q => (hs.2 c ?_).trans q) (fun _ q => q) fun _ _ q => q
    rintro rfl
    rcases hc with rfl | hc
    · rw [hfree] at e; cases e
    · rw [hfree] at hc; cases hc
  rcases hx with hk | hk
  · refine wpAny_storeName_local hk hn (fun h' hn' hs => ?_) hcls
    obtain ⟨oL, _, _, hoL, _⟩ := id hn
    refine h _ ⟨I.ok, I.os, I.bare, ⟨fun b o e n hb hx => ?_, fun b o e n hb hx => ?_, I.base.free, fun b o e hx => ?_, I.base.tups, I.base.frzs, I.base.tbls⟩, ⟨_, hn', fun j y v' e1 e2 e3 => ?_⟩, fun y c e => ?_, I.free, I.freeC, fun p hp => ?_, tracked ⟨oL, hoL, I.free⟩ hs, by simpa using I.len⟩ ⟨_, hs, .inl rfl⟩
    · exact (hs.2 b (Nat.ne_of_lt (Nat.lt_of_lt_of_le (Heap.lt_size e) I.ok.above))).trans (I.base.keep b o e n hb hx)
    · obtain ⟨sl, e1⟩ := I.base.slot b o e n hb hx
      exact ⟨sl, (hs.2 b (Nat.ne_of_lt (Nat.lt_of_lt_of_le (Heap.lt_size e) I.ok.above))).trans e1⟩
    · obtain ⟨o', e1⟩ := I.base.there b o e hx
      exact ⟨o', (hs.2 b (Nat.ne_of_lt (Nat.lt_of_lt_of_le (Heap.lt_size e) I.ok.above))).trans e1⟩
    · by_cases hj : j = i
      · subst hj
        rw [hi] at e1; cases e1
        rw [List.getElem?_set_self hiσ] at e2
        cases e2
        exact ⟨u, r, .inl ⟨hk, by simp⟩⟩
      · rw [List.getElem?_set_ne (Ne.symm hj)] at e2
        obtain ⟨u', r', q⟩ := hl j y v' e1 e2 e3
        refine ⟨u', r', ?_⟩
        rcases q with ⟨k, e⟩ | ⟨k, c, e, z⟩
        · refine .inl ⟨k, ?_⟩
          have : y ≠ x := fun e => hj (nodup_ix hN e1 (e ▸ hi))
          simp [this, e]
        · exact .inr ⟨k, c, e, z.sameBut hs (cne y c e)⟩
    · obtain ⟨w', z⟩ := I.cell y c e
      exact ⟨w', z.sameBut hs (cne y c e)⟩
    · obtain ⟨e, n, ne, nf, d⟩ := I.pin p hp
      exact ⟨(hs.2 p.1 ne).trans e, n, ne, nf, d⟩
  · have hfn : X.fn x = true := by
      rcases hf with z | z
      · exact z
      · rw [z] at hk; cases hk
    obtain ⟨c, hc⟩ := I.ok.has x (.inl hk)
    obtain ⟨w', z⟩ := I.cell x c hc
    refine wpAny_storeName_cell I.ok.kind hk hc z (fun h' hc' hs => ?_)
    obtain ⟨oc, hoc, hocd⟩ := id z
    refine h { s with heap := h' } ⟨I.ok, I.os, I.bare, ⟨fun b o e n hb hx => ?_, fun b o e n hb hx => ?_, I.base.free, fun b o e hx => ?_, I.base.tups, I.base.frzs, I.base.tbls⟩, ⟨m, hn.sameBut hs (Ne.symm (cne x c hc)), fun j y v' e1 e2 e3 => ?_⟩, fun y c' e => ?_, I.free, I.freeC, fun p hp => ?_, tracked ⟨oc, hoc, I.freeC x c hc⟩ hs, by simpa using I.len⟩ ⟨c, hs, .inr hc⟩
    · exact (hs.2 b (Nat.ne_of_lt (Nat.lt_of_lt_of_le (Heap.lt_size e) (I.ok.cab x c hfn hc)))).trans (I.base.keep b o e n hb hx)
    · obtain ⟨sl, e1⟩ := I.base.slot b o e n hb hx
      exact ⟨sl, (hs.2 b (Nat.ne_of_lt (Nat.lt_of_lt_of_le (Heap.lt_size e) (I.ok.cab x c hfn hc)))).trans e1⟩
    · obtain ⟨o', e1⟩ := I.base.there b o e hx
      exact ⟨o', (hs.2 b (Nat.ne_of_lt (Nat.lt_of_lt_of_le (Heap.lt_size e) (I.ok.cab x c hfn hc)))).trans e1⟩
    · by_cases hj : j = i
      · subst hj
        rw [hi] at e1; cases e1
        rw [List.getElem?_set_self hiσ] at e2
        cases e2
        exact ⟨u, r, .inr ⟨.inl hk, c, hc, hc'⟩⟩
      · rw [List.getElem?_set_ne (Ne.symm hj)] at e2
        obtain ⟨u', r', q⟩ := hl j y v' e1 e2 e3
        refine ⟨u', r', ?_⟩
        rcases q with q | ⟨k, c', e, z'⟩
        · exact .inl q
        · refine .inr ⟨k, c', e, z'.sameBut hs ?_⟩
          rintro rfl
          exact hj (nodup_ix hN e1 (I.ok.inj _ _ _ e hc ▸ hi))
    · by_cases hcc : c' = c
      · subst hcc; exact ⟨_, hc'⟩
      · obtain ⟨w2, z2⟩ := I.cell y c' e
        exact ⟨w2, z2.sameBut hs hcc⟩
    · obtain ⟨e, n, ne, nf, d⟩ := I.pin p hp
      refine ⟨(hs.2 p.1 ?_).trans e, n, ne, nf, d⟩
      intro q
      rw [q, hoc] at e
      have q' : oc = p.2 := Option.some.inj e
      exact d w' (by rw [← q']; exact hocd)
theorem store_ok {M : Model} {A : Around} {E : Value → Shared → Prop} {i : Nat} {x : Str} {v : V} {u : Value} {Q : Unit → Shared → Prop} (I : Inv X pins σ H s) (hN : X.N.Nodup) (hi : X.N[i]? = some x) (hx : Loc X.env.scope x) (r : RelV v u)
    (h : ∀ s', Inv X pins (σ.set i (some v)) H s' → Q () s') (hf : X.fn x = true ∨ X.env.scope.names.lookup x = some .local := by first | exact .inl rfl | exact .inr rfl | assumption) : wpAny M A (storeName X.env x u) Q E s :=
  store_ok2 I hN hi hx r (fun s' I' _ => h s' I') hf
/-- behind a call or a block, the state as it is -/
theorem Inv.call' {s' : Shared} {ch : List Addr} (I : Inv X pins σ H s) (ho : s'.os = s.os) (u : Un (frs X.stack) ch H H' s.heap s'.heap) (hok : HOk X.prog X.w H' s'.heap) (hg : AllBare s'.gens)
    (hch : ∀ b ∈ ch, (b ∈ X.ex ∨ X.s_0.heap.objs.size ≤ b) ∧ b ≠ X.env.locals ∧ (∀ x c, X.env.cells.lookup x = some c → c ≠ b) ∧ ∀ p ∈ X.pn ++ pins, p.1 ≠ b) : Inv X pins σ H' s' := by
  obtain ⟨h', g', d', t', o'⟩ := s'
  have e : o' = s.os := ho
  subst e
  exact I.call (g' := g') (t' := t') (d' := d') u hok hg hch
end

/-! ### the judgements -/
/-- an exception: its class, its own dict's address (where it has one), the abstract heap behind it -/
abbrev XK := Value → Option Addr → Hp → Prop
abbrev St := List (Option V)
abbrev VK := V → Hp → Prop
/-- an expression's reading; a test's; an argument list's -/
abbrev TE := St → Hp → VK → Prop
abbrev TT := St → Hp → (Bool → Hp → Prop) → Prop
abbrev TA := St → Hp → (List V → Hp → Prop) → Prop
/-- what is wanted behind a statement -/
structure Ends where
  nx : St → Hp → Prop
  rt : VK
  bk : St → Hp → Prop := fun _ _ => False
  ct : St → Hp → Prop := fun _ _ => False
abbrev TS := Ends → St → Hp → Prop

def EP (X : Cx) (pins : List (Addr × Obj)) (σ : St) (Q : VK) (u : Value) (s' : Shared) : Prop := ∃ v H', Inv X pins σ H' s' ∧ RelV v u ∧ Q v H'
def TP (X : Cx) (pins : List (Addr × Obj)) (σ : St) (Q : Bool → Hp → Prop) (b : Bool) (s' : Shared) : Prop := ∃ H', Inv X pins σ H' s' ∧ Q b H'
def AP (X : Cx) (pins : List (Addr × Obj)) (σ : St) (Q : List V → Hp → Prop) (us : List Value) (s' : Shared) : Prop := ∃ vs H', Inv X pins σ H' s' ∧ Vals vs us ∧ Q vs H'
def SP (X : Cx) (pins : List (Addr × Obj)) (D : Ends) (f : Flow) (s' : Shared) : Prop :=
  match f with
  | .next => ∃ σ' H', Inv X pins σ' H' s' ∧ D.nx σ' H'
  | .brk => ∃ σ' H', Inv X pins σ' H' s' ∧ D.bk σ' H'
  | .cont => ∃ σ' H', Inv X pins σ' H' s' ∧ D.ct σ' H'
  | .ret u => ∃ v σ' H', Inv X pins σ' H' s' ∧ RelV v u ∧ D.rt v H'

def PE (X : Cx) (e : Expr) (t : TE) : Prop :=
  ∀ (pins : List (Addr × Obj)) (s : Shared) (σ : St) (H : Hp) (Q : VK), Inv X pins σ H s → t σ H Q → wpAny (model X.prog X.w) X.A (eval e X.env) (EP X pins σ Q) X.xe s
def PT (X : Cx) (e : Expr) (t : TT) : Prop :=
  ∀ (pins : List (Addr × Obj)) (s : Shared) (σ : St) (H : Hp) (Q : Bool → Hp → Prop), Inv X pins σ H s → t σ H Q → wpAny (model X.prog X.w) X.A (isTrue e X.env (eval e X.env)) (TP X pins σ Q) X.xe s
/-- a test whatever its 'whole' is (and, or) -/
def PW (X : Cx) (e : Expr) (t : TT) : Prop :=
  ∀ (whole : Sem Value) (pins : List (Addr × Obj)) (s : Shared) (σ : St) (H : Hp) (Q : Bool → Hp → Prop), Inv X pins σ H s → t σ H Q → wpAny (model X.prog X.w) X.A (isTrue e X.env whole) (TP X pins σ Q) X.xe s
theorem PW.pt {X : Cx} {e : Expr} {t : TT} (h : PW X e t) : PT X e t := h _
/-- an argument list (no star), from the left -/
def PA (X : Cx) (es : List Expr) (t : TA) : Prop :=
  ∀ (pos : Pos) (pins : List (Addr × Obj)) (s : Shared) (σ : St) (H : Hp) (Q : List V → Hp → Prop), Inv X pins σ H s → t σ H Q → wpAny (model X.prog X.w) X.A (spliced (backTo pos (starEach es X.env))) (AP X pins σ Q) X.xe s
def PS (X : Cx) (st : Stmt) (t : TS) : Prop :=
  ∀ (pins : List (Addr × Obj)) (s : Shared) (σ : St) (H : Hp) (D : Ends), Inv X pins σ H s → t D σ H → wpAny (model X.prog X.w) X.A (exec st X.env) (SP X pins D) X.xe s
def PSs (X : Cx) (st : List Stmt) (t : TS) : Prop :=
  ∀ (pins : List (Addr × Obj)) (s : Shared) (σ : St) (H : Hp) (D : Ends), Inv X pins σ H s → t D σ H → wpAny (model X.prog X.w) X.A (execs st X.env) (SP X pins D) X.xe s
/-- weaken the end -/
theorem thn {α : Type} {t : Sem α} {Q Q' : α → Shared → Prop} {M : Model} {A : Around} {E : Value → Shared → Prop} {s : Shared} (h : wpAny M A t Q E s) (hQ : ∀ a s, Q a s → Q' a s) : wpAny M A t Q' E s := wpAny_mono h hQ fun _ _ x => x
end L2

namespace L2
open PySem PySem.Spec PyProof.Rows
section
variable {X : Cx}

/-- two expressions in a row -/
theorem bin {a b : Expr} {ta tb : TE} (ha : PE X a ta) (hb : PE X b tb) {pins : List (Addr × Obj)} {s : Shared} {σ : St} {H : Hp} {R : V → V → Hp → Prop} (I : Inv X pins σ H s) (h : ta σ H fun x H1 => tb σ H1 fun y H2 => R x y H2)
    {α : Type} {Q : α → Shared → Prop} {f : Value → Value → Sem α}
    (hf : ∀ v u s2 x y H2, Inv X pins σ H2 s2 → RelV x v → RelV y u → R x y H2 → wpAny (model X.prog X.w) X.A (f v u) Q X.xe s2) :
    wpAny (model X.prog X.w) X.A (eval a X.env) (fun v s₁ => wpAny (model X.prog X.w) X.A (eval b X.env) (fun u s₂ => wpAny (model X.prog X.w) X.A (f v u) Q X.xe s₂) X.xe s₁) X.xe s := by
  refine thn (ha pins s σ H _ I h) fun v s1 ⟨x, H1, I1, r1, q1⟩ => ?_
  refine thn (hb pins s1 σ H1 _ I1 q1) fun u s2 ⟨y, H2, I2, r2, q2⟩ => ?_
  exact hf v u s2 x y H2 I2 r1 r2 q2

/-! ### names and constants -/
def tVar (i : Nat) : TE := fun σ H Q => ∃ v, σ[i]? = some (some v) ∧ Q v H
def tC (v : V) : TE := fun _ H Q => Q v H
theorem pe_var {i : Nat} {x : Str} {pos : Pos} (hN : X.N[i]? = some x) (hv : Vis X.env.scope x) (hd : (x == ("__debug__" : Str)) = false := by decide) (hcd : (x == ("__classdict__" : Str)) = false := by decide) : PE X (.Name x pos) (tVar i) := by
  intro pins s σ H Q I h
  obtain ⟨v, e, h⟩ := h
  obtain ⟨m, hn, hl⟩ := I.loc
  obtain ⟨u, r, l⟩ := hl i x v hN e hv
  have fin : EP X pins σ Q u s := ⟨v, H, I, r, h⟩
  rcases l with ⟨hk, hm⟩ | ⟨hk, c, hc, hcell⟩
  · exact wpAny_Name (wpAny_loadName_local I.ok.kind hk hn hm fin) hd
  · rcases hk with hk | hk
    · exact wpAny_Name (wpAny_loadName_cell I.ok.kind hk hc hcell fin) hd
    · exact wpAny_Name (wpAny_loadName_free I.ok.kind hk hc hcell fin hcd) hd
theorem pe_int {i j pos} : PE X (.Constant (.int i) j pos) (tC (.int i)) := fun _ _ _ H _ I h => wpAny_Constant_int ⟨.int i, H, I.tok _, ⟨_, rfl⟩, h⟩
theorem pe_bl {b j pos} : PE X (.Constant (.bool b) j pos) (tC (.bl b)) := fun _ _ _ H _ I h => Constant_bool ⟨.bl b, H, I, rfl, h⟩
theorem pe_non {j pos} : PE X (.Constant .none j pos) (tC .non) := fun _ _ _ H _ I h => Constant_none ⟨.non, H, I, rfl, h⟩
/-- a global name of the def -/
def Gl (X : Cx) (x : Str) : Prop := X.env.kindOf x = some .globalImplicit
theorem ld_glob {E : Value → Shared → Prop} {pins : List (Addr × Obj)} {s : Shared} {σ : St} {H : Hp} {x : Str} {u : Value} {pos : Pos} {Q : Value → Shared → Prop} (I : Inv X pins σ H s) (hg : Gl X x) (hm : X.mg x = some u) (h : Q u s)
    (hd : (x == ("__debug__" : Str)) = false := by decide) : wpAny (model X.prog X.w) X.A (eval (.Name x pos) X.env) Q E s :=
  Calls.Name_function_global I.ok.kind hg (Calls.loadGlobal_global (by rw [I.ok.glob]; exact I.mod.glob.keeps I.bk) hm h) hd
theorem ld_blt {E : Value → Shared → Prop} {pins : List (Addr × Obj)} {s : Shared} {σ : St} {H : Hp} {x : Str} {u : Value} {pos : Pos} {Q : Value → Shared → Prop} (I : Inv X pins σ H s) (hg : Gl X x) (hm : X.mg x = none) (hv : bootBuiltins x = some u) (h : Q u s)
    (hn : x ≠ "__name__" := by decide) (hd : (x == ("__debug__" : Str)) = false := by decide) : wpAny (model X.prog X.w) X.A (eval (.Name x pos) X.env) Q E s := by
  obtain ⟨mb, h1, h2⟩ := I.mod.blt
  exact Calls.Name_function_global I.ok.kind hg (Calls.loadGlobal_builtin (by rw [I.ok.glob]; exact I.mod.glob.keeps I.bk) hm (by rw [I.ok.blt]; exact h1.keeps I.bk) ((h2 x hn).trans hv) h) hd
/-- a module's constant, a class, a function, as a value -/
theorem pe_glob {x : Str} {v : V} {u : Value} {pos : Pos} (hg : Gl X x) (hm : X.mg x = some u) (r : RelV v u) (hd : (x == ("__debug__" : Str)) = false := by decide) : PE X (.Name x pos) (tC v) :=
  fun _ _ _ H _ I h => ld_glob I hg hm ⟨v, H, I, r, h⟩ hd
/-! ### arithmetic -/
variable {a b : Expr} {ta tb : TE} {pos : Pos}
/-! ### comparisons -/
def PC (X : Cx) (op : CmpOp) (a b : Expr) (t : TE) : Prop :=
  ∀ (pins : List (Addr × Obj)) (s : Shared) (σ : St) (H : Hp) (Q : VK), Inv X pins σ H s → t σ H Q →
    wpAny (model X.prog X.w) X.A (eval a X.env) (fun v s₁ => wpAny (model X.prog X.w) X.A (eval b X.env) (fun u s₂ => wpAny (model X.prog X.w) X.A (compareOp op v u) (EP X pins σ Q) X.xe s₂) X.xe s₁) X.xe s
theorem nobehind (b : Expr) {op : CmpOp} (h : op ≠ .In) (h2 : op ≠ .NotIn) : behindInMarks op b = false := by
  have e1 : (op == CmpOp.In) = false := by cases op <;> first | rfl | exact absurd rfl h
  have e2 : (op == CmpOp.NotIn) = false := by cases op <;> first | rfl | exact absurd rfl h2
  cases b <;> simp [behindInMarks, e1, e2]
/-- is None -/
def tIsN (ta : TE) : TE := fun σ H Q => ta σ H fun x H1 => Q (.bl (decide (x = .non))) H1
theorem RelV.none_iff {x : V} {v : Value} (r : RelV x v) : (v == Value.none) = decide (x = .non) := by
  cases x with
  | non => cases r; rfl
  | bl _ => cases r; rfl
  | int _ => obtain ⟨t, rfl⟩ := r; rfl
  | str _ => obtain ⟨t, rfl⟩ := r; rfl
  | byt _ => obtain ⟨t, rfl⟩ := r; rfl
  | flt _ => obtain ⟨t, rfl⟩ := r; rfl
  | ref _ => cases r; rfl
  | ty _ => cases r; rfl
theorem pc_isN {j pos'} (ha : PE X a ta) : PC X .Is a (.Constant .none j pos') (tIsN ta) := by
  intro pins s σ H Q I h
  refine thn (ha pins s σ H _ I h) fun v s1 ⟨x, H1, I1, r1, q1⟩ => ?_
  exact Constant_none (is_none_gen ⟨.bl _, H1, I1, by rw [r1.none_iff]; rfl, q1⟩)
/-- a comparison as a value, as a test -/
def tB (t : TE) : TT := fun σ H Q => t σ H fun x H1 => ∃ c, x = .bl c ∧ Q c H1
theorem pt_cmp {op : CmpOp} {t : TE} (h : PC X op a b t) (h1 : behindInMarks op b = false := by first | exact nobehind _ (by decide) (by decide) | rfl) : PT X (.Compare a [op] [b] pos) (tB t) := by
  intro pins s σ H Q I hw
  refine wpAny_isTrue_Compare1 (thn (h pins s σ H _ I hw) fun v s1 h1 => thn h1 fun u s2 h2 => thn h2 fun c s3 ⟨x, H1, I1, r1, q1⟩ => ?_) h1
  obtain ⟨d, rfl, q⟩ := q1
  cases r1
  exact wpAny_truthy_bool ⟨H1, I1, q⟩
/-- an expression whose value is a bool, as a test -/
theorem pt_val {e : Expr} {t : TE} (h : PE X e t) (he : ∀ whole, isTrue e X.env whole = (do let v ← whole; standAt e.pos; holding [v] (truthy v)) := by intro _; rfl) : PT X e (tB t) := by
  intro pins s σ H Q I hw
  refine isTrue_plain (thn (h pins s σ H _ I hw) fun v s1 ⟨x, H1, I1, r1, q1⟩ => ?_) (he _)
  obtain ⟨d, rfl, q⟩ := q1
  cases r1
  exact wpAny_truthy_bool ⟨H1, I1, q⟩

/-! ### and, or, not -/
variable {tA tB' : TT} {rest : List Expr}
def tAnd (t u : TT) : TT := fun σ H Q => t σ H fun c H1 => if c = true then u σ H1 Q else Q false H1
def tOr (t u : TT) : TT := fun σ H Q => t σ H fun c H1 => if c = true then Q true H1 else u σ H1 Q
def tNot (t : TT) : TT := fun σ H Q => t σ H fun c H1 => Q (!c) H1
theorem pw_and1 (ha : PT X a tA) : PW X (.BoolOp .And [a] pos) tA := by
  intro wh pins s σ H Q I h
  refine isTrue_and (thn (ha pins s σ H Q I h) fun c s1 e => ?_)
  cases c with
  | true => exact isTrue_and_nil e
  | false => exact e
theorem pw_or1 (ha : PT X a tA) : PW X (.BoolOp .Or [a] pos) tA := by
  intro wh pins s σ H Q I h
  refine isTrue_or (thn (ha pins s σ H Q I h) fun c s1 e => ?_)
  cases c with
  | false => exact isTrue_or_nil e
  | true => exact e
theorem pw_and (ha : PT X a tA) (hb : PW X (.BoolOp .And (b :: rest) pos) tB') : PW X (.BoolOp .And (a :: b :: rest) pos) (tAnd tA tB') := by
  intro wh pins s σ H Q I h
  refine isTrue_and (thn (ha pins s σ H _ I h) fun c s1 ⟨H1, I1, q1⟩ => ?_)
  cases c with
  | true => exact hb wh pins s1 σ H1 Q I1 q1
  | false => exact ⟨H1, I1, q1⟩
theorem pw_or (ha : PT X a tA) (hb : PW X (.BoolOp .Or (b :: rest) pos) tB') : PW X (.BoolOp .Or (a :: b :: rest) pos) (tOr tA tB') := by
  intro wh pins s σ H Q I h
  refine isTrue_or (thn (ha pins s σ H _ I h) fun c s1 ⟨H1, I1, q1⟩ => ?_)
  cases c with
  | true => exact ⟨H1, I1, q1⟩
  | false => exact hb wh pins s1 σ H1 Q I1 q1
theorem pt_not (ha : PT X a tA) : PT X (.UnaryOp .Not a pos) (tNot tA) := by
  intro pins s σ H Q I h
  exact isTrue_not (ha pins s σ H (fun c H1 => Q (!c) H1) I h)
/-- .. as values (bools) -/
def tAndV (ta tb : TE) : TE := fun σ H Q => ta σ H fun x H1 => ∃ c, x = .bl c ∧ if c = true then tb σ H1 Q else Q (.bl false) H1
theorem pe_one {op} {t : TE} (h : PE X a t) : PE X (.BoolOp op [a] pos) t := fun pins s σ H Q I hw => BoolOp_one (h pins s σ H Q I hw)
theorem pe_and (ha : PE X a ta) (hb : PE X (.BoolOp .And (b :: rest) pos) tb) : PE X (.BoolOp .And (a :: b :: rest) pos) (tAndV ta tb) := by
  intro pins s σ H Q I h
  refine BoolOp_and (thn (ha pins s σ H _ I h) fun v s1 ⟨x, H1, I1, r1, q1⟩ => ?_)
  obtain ⟨c, rfl, q1⟩ := q1
  cases r1
  refine wpAny_truthy_bool ?_
  cases c with
  | true => exact hb pins s1 σ H1 Q I1 q1
  | false => exact ⟨.bl false, H1, I1, rfl, q1⟩
/-- a if t else b -/
def tIf (t : TT) (ta tb : TE) : TE := fun σ H Q => t σ H fun c H1 => if c = true then ta σ H1 Q else tb σ H1 Q
theorem pe_ifExp {c : Expr} (hc : PT X c tA) (ha : PE X a ta) (hb : PE X b tb) : PE X (.IfExp c a b pos) (tIf tA ta tb) := by
  intro pins s σ H Q I h
  refine wpAny_IfExp (thn (hc pins s σ H _ I h) fun d s1 ⟨H1, I1, q1⟩ => ?_)
  cases d with
  | true => exact ha pins s1 σ H1 Q I1 q1
  | false => exact hb pins s1 σ H1 Q I1 q1
end
end L2

namespace L2
open PySem PySem.Spec PyProof.Rows

/-! ### a list, a tuple that is read: tracked, frozen, or an object of the module -/
def SqL (K : PySem.W.Frag) (H : Hp) (a : Addr) (xs : List V) : Prop :=
  Rd H a (.lst xs) ∨
    ∃ (o : Obj) (its : Array Value) (n : Nat), K.lookup a = some o ∧ o.cls = .type "list" ∧ o.dict = none ∧ o.data = .seq its n ∧ its.size ≤ sizeLine ∧ Vals xs its.toList
def SqT (K : PySem.W.Frag) (H : Hp) (a : Addr) (xs : List V) : Prop :=
  Rd H a (.tup xs) ∨
    ∃ (o : Obj) (its : Array Value) (n : Nat), K.lookup a = some o ∧ o.cls = .type "tuple" ∧ o.data = .seq its n ∧ its.size ≤ sizeLine ∧ Vals xs its.toList
def absV : Value → Option V
  | .none => some .non
  | .bool b => some (.bl b)
  | .int i _ => some (.int i)
  | .str x _ => some (.str x)
  | .bytes b _ => some (.byt b)
  | .float b _ => some (.flt b)
  | .ref a => some (.ref a)
  | .type n => some (.ty n)
  | _ => none
theorem RelV.abs {x : V} {u : Value} (r : RelV x u) : absV u = some x := by
  cases x with
  | non => cases r; rfl
  | bl _ => cases r; rfl
  | int _ => obtain ⟨t, rfl⟩ := r; rfl
  | str _ => obtain ⟨t, rfl⟩ := r; rfl
  | byt _ => obtain ⟨t, rfl⟩ := r; rfl
  | flt _ => obtain ⟨t, rfl⟩ := r; rfl
  | ref _ => cases r; rfl
  | ty _ => cases r; rfl
theorem RelV.inj {x y : V} {u : Value} (r : RelV x u) (q : RelV y u) : x = y := Option.some.inj (r.abs.symm.trans q.abs)
theorem Vals.inj : ∀ {xs ys : List V} {us : List Value}, Vals xs us → Vals ys us → xs = ys
  | _, _, _, .nil, .nil => rfl
  | _, _, _, .cons r t, .cons r' t' => by rw [r.inj r', Vals.inj t t']
section
variable {X : Cx} {pins : List (Addr × Obj)} {σ : St} {H : Hp} {s : Shared} {a : Addr} {xs ys : List V}
theorem SqL.of {K : PySem.W.Frag} (h : H a = some (.lst xs)) : SqL K H a xs := .inl (.inl h)
theorem SqT.of {K : PySem.W.Frag} (h : H a = some (.tup xs)) : SqT K H a xs := .inl (.inl h)
theorem Inv.list (I : Inv X pins σ H s) (h : SqL X.K H a xs) : ∃ its : List Value, Vals xs its ∧ PlainL s.heap a its.toArray ∧ xs.length ≤ sizeLine := by
  rcases h with h | ⟨o, its, n, hk, hc, hd, hs, hz, r⟩
  · obtain ⟨z, its, n, r, e⟩ := h.ok I.hok
    exact ⟨its, r, ⟨_, n, e, rfl, rfl, rfl⟩, z⟩
  · refine ⟨its.toList, r, ⟨o, n, I.kIn a o hk, hc, hd, by simpa using hs⟩, ?_⟩
    have e := r.length
    simp only [Array.length_toList] at e
    omega
theorem Inv.tuple (I : Inv X pins σ H s) (h : SqT X.K H a xs) : ∃ its : List Value, Vals xs its ∧ IsTup s.heap a its.toArray ∧ xs.length ≤ sizeLine := by
  rcases h with h | ⟨o, its, n, hk, hc, hs, hz, r⟩
  · obtain ⟨z, its, r, p⟩ := h.ok I.hok
    exact ⟨its, r, p, z⟩
  · refine ⟨its.toList, r, ⟨o, I.kIn a o hk, hc, n, by simpa using hs⟩, ?_⟩
    have e := r.length
    simp only [Array.length_toList] at e
    omega
theorem Inv.list_inj (I : Inv X pins σ H s) (h : SqL X.K H a xs) (h' : SqL X.K H a ys) : xs = ys := by
  obtain ⟨its, r, ⟨o, n, e, _, _, d⟩, _⟩ := I.list h
  obtain ⟨its', r', ⟨o', n', e', _, _, d'⟩, _⟩ := I.list h'
  rw [e] at e'; cases e'
  rw [d] at d'
  injection d' with d1 _
  have : its = its' := by simpa using congrArg Array.toList d1
  subst this
  exact r.inj r'
theorem Inv.tuple_inj (I : Inv X pins σ H s) (h : SqT X.K H a xs) (h' : SqT X.K H a ys) : xs = ys := by
  obtain ⟨its, r, ⟨o, e, _, n, d⟩, _⟩ := I.tuple h
  obtain ⟨its', r', ⟨o', e', _, n', d'⟩, _⟩ := I.tuple h'
  rw [e] at e'; cases e'
  rw [d] at d'
  injection d' with d1 _
  have : its = its' := by simpa using congrArg Array.toList d1
  subst this
  exact r.inj r'
end

/-! ### another wish about exceptions -/
abbrev Cx.wish (X : Cx) (E : Value → Shared → Prop) : Cx := { X with xe := E }
/-- no exception leaves -/
abbrev Cx.nox (X : Cx) : Cx := X.wish fun _ _ => False
theorem Cx.Ok.wish {X : Cx} (ok : X.Ok) (E : Value → Shared → Prop) : (X.wish E).Ok :=
  ⟨ok.mod, ok.kind, ok.glob, ok.blt, ok.above, ok.inj, ok.has, ok.cab, ok.hd, ok.frames, ok.stk, ok.exf, ok.bs, ok.bsz, ok.noex, ok.exfs, ok.funs, ok.frf⟩
theorem Cx.Ok.unwish {X : Cx} {E : Value → Shared → Prop} (ok : (X.wish E).Ok) : X.Ok :=
  ⟨ok.mod, ok.kind, ok.glob, ok.blt, ok.above, ok.inj, ok.has, ok.cab, ok.hd, ok.frames, ok.stk, ok.exf, ok.bs, ok.bsz, ok.noex, ok.exfs, ok.funs, ok.frf⟩
section
variable {X : Cx} {pins : List (Addr × Obj)} {σ : St} {H : Hp} {s : Shared} {E : Value → Shared → Prop}
theorem Inv.wish (I : Inv X pins σ H s) (E : Value → Shared → Prop) : Inv (X.wish E) pins σ H s := ⟨I.ok.wish E, I.os, I.bare, I.base, I.loc, I.cell, I.free, I.freeC, I.pin, I.hok, I.len⟩
theorem Inv.unwish (I : Inv (X.wish E) pins σ H s) : Inv X pins σ H s := ⟨I.ok.unwish, I.os, I.bare, I.base, I.loc, I.cell, I.free, I.freeC, I.pin, I.hok, I.len⟩
theorem SP.unwish {D : Ends} {f : Flow} {s' : Shared} (h : SP (X.wish E) pins D f s') : SP X pins D f s' := by
  cases f with
  | next => obtain ⟨σ', H', I, q⟩ := h; exact ⟨σ', H', I.unwish, q⟩
  | brk => obtain ⟨σ', H', I, q⟩ := h; exact ⟨σ', H', I.unwish, q⟩
  | cont => obtain ⟨σ', H', I, q⟩ := h; exact ⟨σ', H', I.unwish, q⟩
  | ret u => obtain ⟨v, σ', H', I, r, q⟩ := h; exact ⟨v, σ', H', I.unwish, r, q⟩
theorem PSs.nox {st : List Stmt} {t : TS} (h : PSs X.nox st t) : PSs X st t := fun pins s σ H D I hw =>
  wpAny_mono (h pins s σ H D (I.wish _) hw) (fun _ _ q => q.unwish) fun _ _ z => False.elim z
end

/-! ### blocks and small statements -/
section
variable {X : Cx} {st : Stmt} {rest : List Stmt} {t u : TS} {e : Expr} {te : TE} {pos : Pos}
def tNext : TS := fun D σ H => D.nx σ H
def tSeq (t u : TS) : TS := fun D σ H => t { D with nx := u D } σ H
theorem pss_nil : PSs X [] tNext := fun _ _ σ H _ I h => wpAny_execs_nil ⟨σ, H, I, h⟩
theorem pss_cons (h1 : PS X st t) (h2 : PSs X rest u) : PSs X (st :: rest) (tSeq t u) := by
  intro pins s σ H D I h
  refine wpAny_execs_cons (thn (h1 pins s σ H { D with nx := u D } I h) fun f s1 q => ?_)
  cases f with
  | next =>
    obtain ⟨σ', H', I', q⟩ := q
    exact h2 pins s1 σ' H' D I' q
  | ret v => exact q
  | brk => exact q
  | cont => exact q
theorem pss_one (h1 : PS X st t) : PSs X [st] t := by
  intro pins s σ H D I h
  refine wpAny_execs_cons (thn (h1 pins s σ H D I h) fun f s1 q => ?_)
  cases f with
  | next => exact wpAny_execs_nil q
  | ret v => exact q
  | brk => exact q
  | cont => exact q
/-- in a def's body nothing is shown -/
theorem Inv.quiet {pins : List (Addr × Obj)} {σ : St} {H : Hp} {s : Shared} (I : Inv X pins σ H s) : interactive X.env = false := by simp [interactive, I.ok.kind]
/-- an expression whose value is dropped -/
def tDrop (te : TE) : TS := fun D σ H => te σ H fun _ H1 => D.nx σ H1
theorem ps_expr (he : PE X e te) (hs : swapsWith e none pos.line X.env = pure false := by rfl) : PS X (.Expr e pos) (tDrop te) := by
  intro pins s σ H D I h
  exact wpAny_Expr_any (thn (he pins s σ H _ I h) fun v s1 ⟨x, H1, I1, r1, q1⟩ => ⟨σ, H1, I1, q1⟩) I.quiet hs
def tRet (te : TE) : TS := fun D σ H => te σ H D.rt
theorem ps_ret (he : PE X e te) : PS X (.Return (some e) pos) (tRet te) := by
  intro pins s σ H D I h
  exact wpAny_Return_some (thn (he pins s σ H _ I h) fun v s1 ⟨x, H1, I1, r1, q1⟩ => ⟨x, σ, H1, I1, r1, q1⟩)
def tIfS (c : TT) (t u : TS) : TS := fun D σ H => c σ H fun b H1 => if b = true then t D σ H1 else u D σ H1
theorem ps_if {c : Expr} {a b : List Stmt} {tc : TT} (hc : PT X c tc) (ha : PSs X a t) (hb : PSs X b u) : PS X (.If c a b pos) (tIfS tc t u) := by
  intro pins s σ H D I h
  refine wpAny_If (thn (hc pins s σ H _ I h) fun d s1 ⟨H1, I1, q1⟩ => ?_)
  cases d with
  | true => exact ha pins s1 σ H1 D I1 q1
  | false => exact hb pins s1 σ H1 D I1 q1
end

/-! ### targets -/
abbrev TG := V → St → Hp → (St → Hp → Prop) → Prop
abbrev TGs := List V → St → Hp → (St → Hp → Prop) → Prop
def PG (X : Cx) (target : Expr) (t : TG) : Prop :=
  ∀ (pins : List (Addr × Obj)) (s : Shared) (σ : St) (H : Hp) (v : V) (u : Value) (Q : St → Hp → Prop), Inv X pins σ H s → RelV v u → t v σ H Q →
    wpAny (model X.prog X.w) X.A (assign target X.env u) (fun _ s' => ∃ σ' H', Inv X pins σ' H' s' ∧ Q σ' H') X.xe s
/-- several targets, one after another -/
def PGs (X : Cx) (ts : List Expr) (t : TGs) : Prop :=
  ∀ (pins : List (Addr × Obj)) (s : Shared) (σ : St) (H : Hp) (vs : List V) (us : List Value) (Q : St → Hp → Prop), Inv X pins σ H s → Vals vs us → t vs σ H Q →
    wpAny (model X.prog X.w) X.A (assignInOrder ((assignEach ts X.env).map (·.2)) us) (fun _ s' => ∃ σ' H', Inv X pins σ' H' s' ∧ Q σ' H') X.xe s
/-- o[i] = v, by values -/
abbrev TSet := V → V → V → Hp → (Hp → Prop) → Prop
def PSet (X : Cx) (t : TSet) : Prop :=
  ∀ (pins : List (Addr × Obj)) (s : Shared) (σ : St) (H : Hp) (o i v : V) (ov iv u : Value) (Q : Hp → Prop), Inv X pins σ H s → RelV o ov → RelV i iv → RelV v u → t o i v H Q →
    wpAny (model X.prog X.w) X.A (setItem ov iv u) (fun _ s' => ∃ H', Inv X pins σ H' s' ∧ Q H') X.xe s
/-- a op= b, by values -/
abbrev TIp := V → V → Hp → VK → Prop
def PIp (X : Cx) (op : Operator) (t : TIp) : Prop :=
  ∀ (pins : List (Addr × Obj)) (s : Shared) (σ : St) (H : Hp) (x y : V) (v u : Value) (Q : VK), Inv X pins σ H s → RelV x v → RelV y u → t x y H Q →
    wpAny (model X.prog X.w) X.A (inplaceOp op v u) (EP X pins σ Q) X.xe s
section
variable {X : Cx} {pos : Pos}
def gName (i : Nat) : TG := fun v σ H Q => Q (σ.set i (some v)) H
theorem pg_name {i : Nat} {x : Str} (hN : X.N.Nodup) (hi : X.N[i]? = some x) (hx : Loc X.env.scope x) (hf : X.fn x = true ∨ X.env.scope.names.lookup x = some .local := by first | exact .inl rfl | exact .inr rfl | assumption) : PG X (.Name x pos) (gName i) := by
  intro pins s σ H v u Q I r h
  exact wpAny_assign_Name (store_ok I hN hi hx r (fun s' I' => ⟨_, H, I', h⟩) hf)
def gNil : TGs := fun vs σ H Q => vs = [] ∧ Q σ H
def gCons (t : TG) (u : TGs) : TGs := fun vs σ H Q => ∃ v r, vs = v :: r ∧ t v σ H fun σ' H' => u r σ' H' Q
theorem pgs_nil : PGs X [] gNil := by
  intro pins s σ H vs us Q I r h
  obtain ⟨e, h⟩ := h
  subst e
  cases r
  exact assignInOrder_nil ⟨σ, H, I, h⟩
theorem pgs_cons {e : Expr} {es : List Expr} {t : TG} {u : TGs} (h1 : PG X e t) (h2 : PGs X es u)
    (hs : (assignEach (e :: es) X.env).map (·.2) = assign e X.env :: (assignEach es X.env).map (·.2) := by rfl) : PGs X (e :: es) (gCons t u) := by
  intro pins s σ H vs us Q I r h
  obtain ⟨v, vr, e1, h⟩ := h
  subst e1
  cases r with
  | cons r rr =>
    rw [hs]
    refine assignInOrder_cons (thn (h1 pins s σ H _ _ _ I r h) fun _ s1 ⟨σ1, H1, I1, q1⟩ => ?_)
    exact h2 pins s1 σ1 H1 _ _ Q I1 rr q1
/-- (a, b, ..) = a tuple of that length -/
def gTup (K : PySem.W.Frag) (n : Nat) (t : TGs) : TG := fun v σ H Q => ∃ a xs, v = .ref a ∧ SqT K H a xs ∧ xs.length = n ∧ t xs σ H Q
theorem pg_tup {es : List Expr} {k : Nat} {t : TGs} {n : Nat} (hc : X.calm = true) (h : PGs X es t)
    (hn : (assignEach es X.env).length = n := by rfl) (hst : (assignEach es X.env).findIdx? (·.1) = none := by rfl) : PG X (.Tuple es k pos) (gTup X.K n t) := by
  intro pins s σ H v u Q I r hw
  obtain ⟨a, xs, e1, hq, hl, hw⟩ := hw
  subst e1
  cases r
  obtain ⟨its, rv, ht, hz⟩ := I.tuple hq
  refine assign_Tuple_tuple (I.ok.hd hc) ht (by simp [hn, ← hl, rv.length]) hst fun h' hx => ?_
  have I1 : Inv X pins σ H { s with heap := h' } := I.kept (t' := s.toks) fun b o e => hx b o (Nat.ne_of_lt (Heap.lt_size e)) e
  exact h pins _ σ H xs _ Q I1 (by simpa using rv) hw
/-- o[i] = .. -/
def gSub (to ti : TE) (t : TSet) : TG := fun v σ H Q => to σ H fun o H1 => ti σ H1 fun i H2 => t o i v H2 fun H3 => Q σ H3
theorem pg_sub {o i : Expr} {to ti : TE} {t : TSet} (ho : PE X o to) (hi : PE X i ti) (hs : PSet X t)
    (ha : ∀ v, assign (.Subscript o i pos) X.env v = (do
      let ov ← holding [v] (eval o X.env)
      let iv ← holding [v, ov] (eval i X.env)
      standAt pos
      holding [v, ov, iv] (setItem ov iv v)
      release [v, ov, iv] []) := by intro _; rfl) : PG X (.Subscript o i pos) (gSub to ti t) := by
  intro pins s σ H v u Q I r h
  rw [ha]
  refine wpAny_bind (wpAny_holding (thn (ho pins s σ H _ I h) fun ov s1 ⟨x, H1, I1, r1, q1⟩ => ?_))
  refine wpAny_bind (wpAny_holding (thn (hi pins s1 σ H1 _ I1 q1) fun iv s2 ⟨y, H2, I2, r2, q2⟩ => ?_))
  refine wpAny_bind (wpAny_standAt (wpAny_bind (wpAny_holding (thn (hs pins s2 σ H2 x y v ov iv u _ I2 r1 r2 r q2) fun _ s3 ⟨H3, I3, q3⟩ => ?_))))
  exact wpAny_release ⟨σ, H3, I3, q3⟩
/-- target = value -/
def tAsg (te : TE) (g : TG) : TS := fun D σ H => te σ H fun x H1 => g x σ H1 D.nx
theorem ps_asg {tg e : Expr} {te : TE} {g : TG} (he : PE X e te) (hg : PG X tg g) (hs : swapsWithSole [tg] e pos.line X.env = pure false := by rfl) (hw : swappedStores [tg] e X.env = pure none := by rfl)
    (h1 : (assignEach [tg] X.env).map (·.2) = [assign tg X.env] := by rfl) : PS X (.Assign [tg] e pos) (tAsg te g) := by
  intro pins s σ H D I h
  refine wpAny_Assign_stores (thn (he pins s σ H _ I h) fun v s1 ⟨x, H1, I1, r1, q1⟩ => ?_) hs hw
  rw [h1]
  exact thn (hg pins s1 σ H1 x v _ I1 r1 q1) fun _ s2 q => q
/-- name = value -/
theorem ps_set {i : Nat} {x : Str} {e : Expr} {te : TE} {pos' : Pos} (hN : X.N.Nodup) (hi : X.N[i]? = some x) (hx : Loc X.env.scope x) (he : PE X e te) (hs : swapsWith e (some (.Name x pos')) pos.line X.env = pure false := by rfl) (hf : X.fn x = true ∨ X.env.scope.names.lookup x = some .local := by first | exact .inl rfl | exact .inr rfl | assumption) :
    PS X (.Assign [.Name x pos'] e pos) (tAsg te (gName i)) := by
  intro pins s σ H D I h
  refine wpAny_Assign_Name (thn (he pins s σ H _ I h) fun v s1 ⟨y, H1, I1, r1, q1⟩ => ?_) hs
  exact store_ok I1 hN hi hx r1 (fun s2 I2 => ⟨_, H1, I2, q1⟩) hf
/-- name op= e -/
def tAug (i : Nat) (te : TE) (ti : TIp) : TS := fun D σ H => ∃ x, σ[i]? = some (some x) ∧ te σ H fun y H1 => ti x y H1 fun z H2 => D.nx (σ.set i (some z)) H2
theorem ps_aug {i : Nat} {x : Str} {e : Expr} {te : TE} {op : Operator} {ti : TIp} {pos' : Pos} (hN : X.N.Nodup) (hi : X.N[i]? = some x) (hx : Loc X.env.scope x) (he : PE X e te) (ho : PIp X op ti) (hf : X.fn x = true ∨ X.env.scope.names.lookup x = some .local := by first | exact .inl rfl | exact .inr rfl | assumption) :
    PS X (.AugAssign (.Name x pos') op e pos) (tAug i te ti) := by
  intro pins s σ H D I h
  obtain ⟨v, e1, h⟩ := h
  obtain ⟨m, hn, hl⟩ := I.loc
  have vis : Vis X.env.scope x := by rcases hx with k | k; exact .inl k; exact .inr (.inl k)
  obtain ⟨u, r, l⟩ := hl i x v hi e1 vis
  refine wpAny_AugAssign_Name ?_
  have go : wpAny (model X.prog X.w) X.A (eval e X.env) (fun w s₂ => wpAny (model X.prog X.w) X.A (inplaceOp op u w) (fun r s₃ => wpAny (model X.prog X.w) X.A (storeName X.env x r) (fun _ => SP X pins D .next) X.xe s₃) X.xe s₂) X.xe s := by
    refine thn (he pins s σ H _ I h) fun w s1 ⟨y, H1, I1, r1, q1⟩ => ?_
    refine thn (ho pins s1 σ H1 v y u w _ I1 r r1 q1) fun z s2 ⟨zv, H2, I2, r2, q2⟩ => ?_
    exact store_ok I2 hN hi hx r2 (fun s3 I3 => ⟨_, H2, I3, q2⟩) hf
  rcases l with ⟨hk, hm⟩ | ⟨hk, c, hc, hcell⟩
  · exact wpAny_loadName_local I.ok.kind hk hn hm go
  · rcases hk with hk | hk
    · exact wpAny_loadName_cell I.ok.kind hk hc hcell go
    · rcases hx with k | k
      · have : X.env.scope.names.lookup x = some .free := hk
        rw [k] at this; cases this
      · have : X.env.scope.names.lookup x = some .free := hk
        rw [k] at this; cases this
/-- ints -/
def ipI (f : Int → Int → Int) : TIp := fun x y H Q => ∃ i j, x = .int i ∧ y = .int j ∧ Q (.int (f i j)) H
theorem ip_add : PIp X .Add (ipI fun i j => i + j) := by
  intro pins s σ H x y v u Q I r1 r2 h
  obtain ⟨i, j, e1, e2, q⟩ := h
  subst e1; subst e2
  obtain ⟨t, rfl⟩ := r1
  obtain ⟨t', rfl⟩ := r2
  exact iadd_int ⟨.int _, H, I.tok _, ⟨_, rfl⟩, q⟩
end

/-! ### while -/
section
variable {X : Cx} {pos : Pos}
/-- the invariant W with its measure -/
def tWhile (c : TT) (tb : TS) : TS := fun D σ H => ∃ W : Nat → St → Hp → Prop, (∃ m, W m σ H) ∧ ∀ m σ H, W m σ H →
  c σ H fun b H1 => if b = true then ∃ N : St → Hp → Prop, (∀ σ' H', N σ' H' → ∃ m', m' < m ∧ W m' σ' H') ∧ tb { D with nx := N, ct := N, bk := D.nx } σ H1 else D.nx σ H1
theorem ps_while {c : Expr} {body : List Stmt} {tc : TT} {tb : TS} (hp : PassesOwn (model X.prog X.w) X.A X.env X.xe) (hc : PT X c tc) (hb : PSs X body tb) : PS X (.While c body [] pos) (tWhile tc tb) := by
  intro pins s σ H D I h
  obtain ⟨W, ⟨m0, w0⟩, turn⟩ := h
  refine wpAny_While (codeAny_whileLoop (fun n s' => ∃ σ' H', Inv X pins σ' H' s' ∧ W n σ' H') ?_ m0 ⟨σ, H, I, w0⟩)
  rintro n s1 ⟨σ1, H1, I1, w1⟩
  refine wpAny_passesOwn hp (thn (hc pins s1 σ1 H1 _ I1 (turn n σ1 H1 w1)) fun b s2 ⟨H2, I2, q2⟩ => ?_)
  cases b with
  | true =>
    obtain ⟨N, hN, q2⟩ := q2
    rw [if_pos rfl]
    refine wpAny_passesOwn hp (thn (hb pins s2 σ1 H2 _ I2 q2) fun f s3 q3 => ?_)
    cases f with
    | next =>
      obtain ⟨σ3, H3, I3, n3⟩ := q3
      obtain ⟨m', hm, w3⟩ := hN σ3 H3 n3
      exact ⟨m', hm, σ3, H3, I3, w3⟩
    | cont =>
      obtain ⟨σ3, H3, I3, n3⟩ := q3
      obtain ⟨m', hm, w3⟩ := hN σ3 H3 n3
      exact ⟨m', hm, σ3, H3, I3, w3⟩
    | brk => exact q3
    | ret v => exact q3
  | false =>
    rw [if_neg Bool.false_ne_true]
    exact wpAny_execs_nil ⟨σ1, H2, I2, q2⟩
end

/-! ### what a loop or a comprehension walks -/
/-- at turn i: it yields x (the heap may grow), or it stops -/
structure It where
  go : Nat → Hp → Prop
  yld : Nat → Hp → V → Hp → Prop
  stop : Nat → Hp → Prop
/-- the iterator's own objects may turn: they are not the frame's, not pinned, younger than the entry (or a comprehension's own) -/
def FpOk (X : Cx) (pins : List (Addr × Obj)) (H : Hp) (b : Addr) : Prop :=
  H b = none ∧ b ≠ X.env.locals ∧ b ∉ X.fs ∧ (b ∈ X.ex ∨ X.s_0.heap.objs.size ≤ b) ∧ (∀ x c, X.env.cells.lookup x = some c → c ≠ b) ∧ ∀ p ∈ X.pn ++ pins, p.1 ≠ b
theorem Inv.fpOk {X : Cx} {pins : List (Addr × Obj)} {σ : St} {H H' : Hp} {s : Shared} {b : Addr} (I : Inv X pins σ H s) (hb : s.heap.objs.size ≤ b) (hn : H' b = none) : FpOk X pins H' b := by
  refine ⟨hn, Nat.ne_of_gt (Nat.lt_of_lt_of_le I.lt hb), I.nofs hb, .inr (Nat.le_trans I.sz hb), fun x c e z => ?_, fun p hp z => ?_⟩
  · obtain ⟨v, q⟩ := I.cell x c e
    exact absurd (Nat.lt_of_lt_of_le q.lt (by rw [z]; exact hb)) (Nat.lt_irrefl _)
  · exact absurd (Nat.lt_of_lt_of_le (Heap.lt_size (I.pin p hp).1) (by rw [z]; exact hb)) (Nat.lt_irrefl _)
structure Turn (P : Program) (w : World) (K : PySem.W.Frag) (tg : Expr) (J : It) (fp : List Addr) (it : Addr) (tn : Nat → Heap → Prop) : Prop where
  mem : it ∈ fp
  obj : ∀ i h, tn i h → ∀ b ∈ fp, ∃ o, h.get? b = some o ∧ ∀ v, o.data ≠ .cell v
  keep : ∀ i h h', tn i h → (∀ b ∈ fp, ∀ o, h.get? b = some o → h'.get? b = some o) → tn i h'
  item : ∀ (X : Cx), X.prog = P → X.w = w → X.K = K → X.calm = true → ∀ (i : Nat) (pins : List (Addr × Obj)) (s : Shared) (σ : St) (H : Hp) (E : Value → Shared → Prop), Inv X pins σ H s → (∀ b ∈ fp, FpOk X pins H b) → tn i s.heap → J.go i H →
    wpAny (model P w) X.A (pyNext (.ref it)) (fun r s1 => ∃ u, r = some u ∧
      wpAny (model P w) X.A (letOwnedTupleGo tg (.ref it) u) (fun _ s2 => ∃ x H', Inv X pins σ H' s2 ∧ RelV x u ∧ J.yld i H x H' ∧ tn (i + 1) s2.heap ∧ ∀ b ∈ fp, H' b = none) E s1) E s
  done : ∀ (X : Cx), X.prog = P → X.w = w → X.K = K → X.calm = true → ∀ (i : Nat) (pins : List (Addr × Obj)) (s : Shared) (σ : St) (H : Hp) (E : Value → Shared → Prop), Inv X pins σ H s → (∀ b ∈ fp, FpOk X pins H b) → tn i s.heap → J.stop i H →
    wpAny (model P w) X.A (pyNext (.ref it)) (fun r s1 => r = none ∧ Inv X pins σ H s1) E s
  self : ∀ (A : Around) (i : Nat) (s : Shared) (Q : Value → Shared → Prop) (E : Value → Shared → Prop), tn i s.heap → Q (.ref it) s → wpAny (model P w) A (pyIter (.ref it)) Q E s
abbrev TI := St → Hp → (It → Hp → Prop) → Prop
/-- an iterator has come -/
def PIE (X : Cx) (pins : List (Addr × Obj)) (σ : St) (tg : Expr) (R : It → Hp → Prop) (itv : Value) (s2 : Shared) : Prop :=
  ∃ (it : Addr) (fp : List Addr) (tn : Nat → Heap → Prop) (J : It) (H' : Hp), itv = .ref it ∧ Inv X pins σ H' s2 ∧ Turn X.prog X.w X.K tg J fp it tn ∧ tn 0 s2.heap ∧ (∀ b ∈ fp, FpOk X pins H' b) ∧ R J H'
def PI (X : Cx) (tg iter : Expr) (wi : TI) : Prop :=
  ∀ (pins : List (Addr × Obj)) (s : Shared) (σ : St) (H : Hp) (R : It → Hp → Prop), Inv X pins σ H s → wi σ H R →
    wpAny (model X.prog X.w) X.A (eval iter X.env) (fun v s1 => wpAny (model X.prog X.w) X.A (pyIter v) (PIE X pins σ tg R) X.xe s1) X.xe s

/-- the step ahead of the store is nothing for an iterator that keeps no tuple -/
theorem go_of {M : Model} {A : Around} {E : Value → Shared → Prop} {s : Shared} {tg : Expr} {it : Addr} {u : Value} {o : Obj} {n : String} {vs : Array Value} {Q : Unit → Shared → Prop} (ho : s.heap.get? it = some o) (hc : o.cls = .type n) (hd : o.data = .fields vs)
    (hn : ["enumerate", "zip", "dict_itemiterator", "dict_reverseitemiterator", "odict_iterator", "itertools.zip_longest", "itertools.pairwise"].contains n = false) (hQ : Q () s) : wpAny M A (letOwnedTupleGo tg (.ref it) u) Q E s := by
  unfold letOwnedTupleGo
  cases tg <;> first
    | exact wpAny_pure hQ
    | (cases u <;> first
        | exact wpAny_pure hQ
        | (refine wpAny_bind (wpAny_load ho ?_)
           rw [hc, hd]
           show wpAny M A (if (["enumerate", "zip", "dict_itemiterator", "dict_reverseitemiterator", "odict_iterator", "itertools.zip_longest", "itertools.pairwise"].contains n && vs[0]? == some (rawInt _)) = true then _ else _) Q E s
           rw [if_neg (by intro h; rw [hn, Bool.false_and] at h; cases h)]
           exact wpAny_pure hQ))

/-- the list at a, as it stands at each turn (a loop may append to it) -/
def Itl (K : PySem.W.Frag) (a : Addr) : It :=
  ⟨fun i H => ∃ xs x, SqL K H a xs ∧ xs[i]? = some x, fun i H x H' => H' = H ∧ ∀ xs, SqL K H a xs → xs[i]? = some x, fun i H => ∃ xs, SqL K H a xs ∧ xs.length ≤ i⟩
def Itt (K : PySem.W.Frag) (a : Addr) : It :=
  ⟨fun i H => ∃ xs x, SqT K H a xs ∧ xs[i]? = some x, fun i H x H' => H' = H ∧ ∀ xs, SqT K H a xs → xs[i]? = some x, fun i H => ∃ xs, SqT K H a xs ∧ xs.length ≤ i⟩
/-- lo, lo + 1, .. (n of them) -/
def Itr (lo : Int) (n : Nat) : It := ⟨fun i _ => i < n, fun i H x H' => H' = H ∧ x = .int (lo + i), fun i _ => n ≤ i⟩
theorem turn_list {P : Program} {w : World} {K : PySem.W.Frag} {tg : Expr} (a it : Addr) : Turn P w K tg (Itl K a) [it] it (fun i h => h.IsListIter it a i) where
  mem := by simp
  obj := fun i h st b hb => by
    have e : b = it := by simpa using hb
    subst e
    obtain ⟨o, e, c, d⟩ := st
    exact ⟨o, e, fun v z => by rw [d] at z; cases z⟩
  keep := fun i h h' st k => st.at fun o e => k it (by simp) o e
  item := by
    intro X hP hw hK hc i pins s σ H E I hf st hg
    subst hP hw hK
    obtain ⟨xs, x, hq, hx⟩ := hg
    obtain ⟨its, rv, p, hz⟩ := I.list hq
    obtain ⟨u, hu, ru⟩ := rv.get hx
    obtain ⟨f0, f1, f2, f3, f4, f5⟩ := hf it (by simp)
    refine wpAny_pyNext_list_item st p.isList (x := u) (by simpa using hu) fun h' st' sb => ?_
    have I1 : Inv X pins σ H { s with heap := h' } := I.turned (t' := s.toks) (fun b o hb e => (sb.2 b hb).trans e) f0 f1 f3 f4 f5
    obtain ⟨o, e, c, d⟩ := id st'
    exact ⟨u, rfl, go_of (s := { s with heap := h' }) e c d (by decide) ⟨x, H, I1, ru, ⟨rfl, fun ys hy => by rw [I.list_inj hy hq]; exact hx⟩, st', fun b hb => (hf b hb).1⟩⟩
  done := by
    intro X hP hw hK hc i pins s σ H E I hf st hg
    subst hP hw hK
    obtain ⟨xs, hq, hx⟩ := hg
    obtain ⟨its, rv, p, hz⟩ := I.list hq
    obtain ⟨f0, f1, f2, f3, f4, f5⟩ := hf it (by simp)
    have hl := rv.length
    exact wpAny_pyNext_list_end (I.ok.hd hc) st p.isList (by simp; omega) fun h' eb => ⟨rfl, I.turned (t' := s.toks) (fun b o hb e => eb b o hb e) f0 f1 f3 f4 f5⟩
  self := fun _ _ _ _ _ st h => wpAny_pyIter_listiter st h
theorem turn_tuple {P : Program} {w : World} {K : PySem.W.Frag} {tg : Expr} (a it : Addr) : Turn P w K tg (Itt K a) [it] it (fun i h => h.IsTupleIter it a i) where
  mem := by simp
  obj := fun i h st b hb => by
    have e : b = it := by simpa using hb
    subst e
    obtain ⟨o, e, c, d⟩ := st
    exact ⟨o, e, fun v z => by rw [d] at z; cases z⟩
  keep := fun i h h' st k => st.at fun o e => k it (by simp) o e
  item := by
    intro X hP hw hK hc i pins s σ H E I hf st hg
    subst hP hw hK
    obtain ⟨xs, x, hq, hx⟩ := hg
    obtain ⟨its, rv, p, hz⟩ := I.tuple hq
    obtain ⟨u, hu, ru⟩ := rv.get hx
    obtain ⟨f0, f1, f2, f3, f4, f5⟩ := hf it (by simp)
    refine wpAny_pyNext_tuple_item st (show s.heap.IsTuple a its.toArray from p) (x := u) (by simpa using hu) fun h' st' sb => ?_
    have I1 : Inv X pins σ H { s with heap := h' } := I.turned (t' := s.toks) (fun b o hb e => (sb.2 b hb).trans e) f0 f1 f3 f4 f5
    obtain ⟨o, e, c, d⟩ := id st'
    exact ⟨u, rfl, go_of (s := { s with heap := h' }) e c d (by decide) ⟨x, H, I1, ru, ⟨rfl, fun ys hy => by rw [I.tuple_inj hy hq]; exact hx⟩, st', fun b hb => (hf b hb).1⟩⟩
  done := by
    intro X hP hw hK hc i pins s σ H E I hf st hg
    subst hP hw hK
    obtain ⟨xs, hq, hx⟩ := hg
    obtain ⟨its, rv, p, hz⟩ := I.tuple hq
    obtain ⟨f0, f1, f2, f3, f4, f5⟩ := hf it (by simp)
    have hl := rv.length
    exact wpAny_pyNext_tuple_end (I.ok.hd hc) st (show s.heap.IsTuple a its.toArray from p) (by simp; omega) fun h' eb => ⟨rfl, I.turned (t' := s.toks) (fun b o hb e => eb b o hb e) f0 f1 f3 f4 f5⟩
  self := fun _ _ _ _ _ st h => wpAny_pyIter_tupleiter st h
theorem turn_range {P : Program} {w : World} {K : PySem.W.Frag} {tg : Expr} (it : Addr) (lo : Int) (n : Nat) : Turn P w K tg (Itr lo n) [it] it (fun i h => IsRangeIter h it (lo + (i : Nat) * 1) ((n : Int) - (i : Nat)) 1) where
  mem := by simp
  obj := fun i h st b hb => by
    have e : b = it := by simpa using hb
    subst e
    exact ⟨_, st, fun v z => by
      have z' : Data.fields _ = Data.cell v := z
      cases z'⟩
  keep := fun i h h' st k => k it (by simp) _ st
  item := by
    intro X hP hw hK hc i pins s σ H E I hf st hg
    subst hP hw hK
    obtain ⟨f0, f1, f2, f3, f4, f5⟩ := hf it (by simp)
    have W := Walks.range (prog := X.prog) (w := X.w) (I.ok.hd hc) it lo 1 n
    refine W.item i s _ _ hg st fun v h' tk hv st' kk => ?_
    obtain ⟨t, rfl⟩ := hv
    have I1 : Inv X pins σ H { s with heap := h', toks := tk } := I.turned (fun b o hb e => kk b o (by simpa using hb) e) f0 f1 f3 f4 f5
    refine ⟨_, rfl, go_of (s := { s with heap := h', toks := tk }) (n := "range_iterator") st' rfl rfl (by decide) ⟨.int (lo + i), H, I1, ⟨t, ?_⟩, ⟨rfl, rfl⟩, st', fun b hb => (hf b hb).1⟩⟩
    rw [Int.mul_one]
  done := by
    intro X hP hw hK hc i pins s σ H E I hf st hg
    subst hP hw hK
    obtain ⟨f0, f1, f2, f3, f4, f5⟩ := hf it (by simp)
    exact wpAny_pyNext_range_end (I.ok.hd hc) st (by have : n ≤ i := hg; omega) fun h' eb => ⟨rfl, I.turned (t' := s.toks) (fun b o hb e => eb b o hb e) f0 f1 f3 f4 f5⟩
  self := fun _ _ _ _ _ st h => wpAny_pyIter_rangeiter st h
end L2

namespace L2
open PySem PySem.Spec PyProof.Rows
section
variable {X : Cx} {tg : Expr}
def iList (K : PySem.W.Frag) (tl : TE) : TI := fun σ H R => tl σ H fun x H1 => ∃ a, x = .ref a ∧ (∃ xs, SqL K H1 a xs) ∧ R (Itl K a) H1
def iTup (K : PySem.W.Frag) (tl : TE) : TI := fun σ H R => tl σ H fun x H1 => ∃ a, x = .ref a ∧ (∃ xs, SqT K H1 a xs) ∧ R (Itt K a) H1
theorem pi_list {l : Expr} {tl : TE} (hl : PE X l tl) : PI X tg l (iList X.K tl) := by
  intro pins s σ H R I h
  refine thn (hl pins s σ H _ I h) fun v s1 ⟨x, H1, I1, r1, q1⟩ => ?_
  obtain ⟨a, e, ⟨xs, hq⟩, q⟩ := q1
  subst e
  cases r1
  obtain ⟨its, rv, p, hz⟩ := I1.list hq
  refine wpAny_pyIter_list p.isList ?_
  refine ⟨s1.heap.objs.size, [s1.heap.objs.size], _, _, H1, rfl, I1.kept (t' := s1.toks) fun b o e => Heap.get?_push_of_some _ e, turn_list a _, ⟨_, Heap.get?_push_size _ rfl, rfl, rfl⟩, fun b hb => ?_, q⟩
  have e : b = s1.heap.objs.size := by simpa using hb
  subst e
  exact I1.fpOk (Nat.le_refl _) (I1.hok.fresh (Nat.le_refl _))
theorem pi_tup {l : Expr} {tl : TE} (hl : PE X l tl) : PI X tg l (iTup X.K tl) := by
  intro pins s σ H R I h
  refine thn (hl pins s σ H _ I h) fun v s1 ⟨x, H1, I1, r1, q1⟩ => ?_
  obtain ⟨a, e, ⟨xs, hq⟩, q⟩ := q1
  subst e
  cases r1
  obtain ⟨its, rv, p, hz⟩ := I1.tuple hq
  refine wpAny_pyIter_tuple (show s1.heap.IsTuple a its.toArray from p) ?_
  refine ⟨s1.heap.objs.size, [s1.heap.objs.size], _, _, H1, rfl, I1.kept (t' := s1.toks) fun b o e => Heap.get?_push_of_some _ e, turn_tuple a _, ⟨_, Heap.get?_push_size _ rfl, rfl, rfl⟩, fun b hb => ?_, q⟩
  have e : b = s1.heap.objs.size := by simpa using hb
  subst e
  exact I1.fpOk (Nat.le_refl _) (I1.hok.fresh (Nat.le_refl _))
/-- a range object just made, walked -/
theorem range_it {pins : List (Addr × Obj)} {σ : St} {H : Hp} {s : Shared} {R : It → Hp → Prop} {E : Value → Shared → Prop} {lo hi : Int} {t u v : Tok} {tk : Nat} (I : Inv X pins σ H s) (h1 : -(2 ^ 62) ≤ lo) (h2 : lo < 2 ^ 62) (h3 : -(2 ^ 62) ≤ hi) (h4 : hi < 2 ^ 62)
    (q : R (Itr lo (hi - lo).toNat) H) : wpAny (model X.prog X.w) X.A (pyIter (.ref s.heap.objs.size)) (PIE X pins σ tg R) E { s with heap := s.heap.push { cls := .type "range", data := .fields #[.int lo t, .int hi u, .int 1 v] }, toks := tk } := by
  refine wpAny_pyIter_range (IsRange.new ..) (small_one h1 h2 h3 h4) ?_
  have I1 : Inv X pins σ H { s with heap := s.heap.push { cls := .type "range", data := .fields #[.int lo t, .int hi u, .int 1 v] }, toks := tk } := I.kept fun b o e => Heap.get?_push_of_some _ e
  refine ⟨(s.heap.push { cls := .type "range", data := .fields #[.int lo t, .int hi u, .int 1 v] }).objs.size, [(s.heap.push { cls := .type "range", data := .fields #[.int lo t, .int hi u, .int 1 v] }).objs.size], _, _, H, rfl,
    I1.kept (t' := tk) fun b o e => Heap.get?_push_of_some _ e, turn_range _ lo (hi - lo).toNat, ?_, fun b hb => ?_, q⟩
  · have e1 : lo + ((0 : Nat) : Int) * 1 = lo := by simp
    have e2 : (((hi - lo).toNat : Nat) : Int) - ((0 : Nat) : Int) = Builtin.Range.rangeSize lo hi 1 := by rw [rangeSize_one]; split <;> omega
    show IsRangeIter _ _ (lo + ((0 : Nat) : Int) * 1) ((((hi - lo).toNat : Nat) : Int) - ((0 : Nat) : Int)) 1
    rw [e1, e2]
    exact Heap.get?_push_size _ rfl
  · have e : b = (s.heap.push { cls := .type "range", data := .fields #[.int lo t, .int hi u, .int 1 v] }).objs.size := by simpa using hb
    subst e
    exact I1.fpOk (Nat.le_refl _) (I1.hok.fresh (Nat.le_refl _))
def iRng1 (ta : TA) : TI := fun σ H R => ta σ H fun vs H1 => ∃ j : Int, vs = [.int j] ∧ -(2 ^ 62) ≤ j ∧ j < 2 ^ 62 ∧ R (Itr 0 j.toNat) H1
def iRng2 (ta : TA) : TI := fun σ H R => ta σ H fun vs H1 => ∃ i j : Int, vs = [.int i, .int j] ∧ (-(2 ^ 62) ≤ i ∧ i < 2 ^ 62 ∧ -(2 ^ 62) ≤ j ∧ j < 2 ^ 62) ∧ R (Itr i (j - i).toNat) H1
theorem pi_range1 {a : Expr} {ta : TA} {p pos : Pos} (hg : Gl X "range") (hm : X.mg "range" = none) (ha : PA X [a] ta) (hs : starEach [a] X.env = [(false, eval a X.env)] := by rfl) : PI X tg (.Call (.Name "range" p) [a] [] pos) (iRng1 ta) := by
  intro pins s σ H R I h
  refine Call_ (ld_blt I hg hm boot_range (PyProof.Rows.callWith_type1 (thn (ha pos pins s σ H _ I h) fun us s1 ⟨vs, H1, I1, r1, q1⟩ => ?_) hs rfl))
  obtain ⟨j, e, q1, q2, q⟩ := q1
  subst e
  cases r1 with
  | cons r rr =>
    cases rr
    obtain ⟨t, rfl⟩ := r
    exact call_range_1 (range_it I1 (by omega) (by omega) q1 q2 (by simpa using q))
theorem pi_range2 {a b : Expr} {ta : TA} {p pos : Pos} (hg : Gl X "range") (hm : X.mg "range" = none) (ha : PA X [a, b] ta) (hs : starEach [a, b] X.env = [(false, eval a X.env), (false, eval b X.env)] := by rfl) (hs2 : starEach [b] X.env = [(false, eval b X.env)] := by rfl) :
    PI X tg (.Call (.Name "range" p) [a, b] [] pos) (iRng2 ta) := by
  intro pins s σ H R I h
  refine Call_ (ld_blt I hg hm boot_range (PyProof.Rows.callWith_type1 (thn (ha pos pins s σ H _ I h) fun us s1 ⟨vs, H1, I1, r1, q1⟩ => ?_) (by rw [hs, hs2]) (by rw [hs2]; rfl)))
  obtain ⟨i, j, e, ⟨q1, q2, q3, q4⟩, q⟩ := q1
  subst e
  cases r1 with
  | cons r rr =>
    cases rr with
    | cons r' rr =>
      cases rr
      obtain ⟨t, rfl⟩ := r
      obtain ⟨t', rfl⟩ := r'
      exact call_range_2 (range_it I1 q1 q2 q3 q4 q)

/-! ### for -/
/-- W: the invariant by the turn and a measure; N: what the body is to reach -/
def tFor (wi : TI) (g : TG) (tb : TS) : TS := fun D σ H => wi σ H fun J H1 => ∃ W : Nat → Nat → St → Hp → Prop, (∃ m, W 0 m σ H1) ∧ ∀ i m σ H, W i m σ H →
  (J.stop i H ∧ D.nx σ H) ∨ (J.go i H ∧ ∃ N : St → Hp → Prop, (∀ σ' H', N σ' H' → ∃ m', m' < m ∧ W (i + 1) m' σ' H') ∧ ∀ x H', J.yld i H x H' → g x σ H' fun σ2 H2 => tb { D with nx := N, ct := N, bk := D.nx } σ2 H2)
/-- the records at fp as they stand -/
def pinsAt (fp : List Addr) (h : Heap) : List (Addr × Obj) := fp.filterMap fun b => (h.get? b).map fun o => (b, o)
theorem mem_pinsAt {fp : List Addr} {h : Heap} {b : Addr} {o : Obj} (hb : b ∈ fp) (e : h.get? b = some o) : (b, o) ∈ pinsAt fp h := List.mem_filterMap.mpr ⟨b, hb, by rw [e]; rfl⟩
theorem of_pinsAt {fp : List Addr} {h : Heap} {p : Addr × Obj} (hp : p ∈ pinsAt fp h) : p.1 ∈ fp ∧ h.get? p.1 = some p.2 := by
  obtain ⟨b, hb, e⟩ := List.mem_filterMap.mp hp
  cases q : h.get? b with
  | none => rw [q] at e; cases e
  | some o =>
    rw [q] at e
    have e' : (b, o) = p := Option.some.inj e
    subst e'
    exact ⟨hb, q⟩
theorem Inv.pinned {pins : List (Addr × Obj)} {σ : St} {H : Hp} {s : Shared} {fp : List Addr} (I : Inv X pins σ H s) (hf : ∀ b ∈ fp, FpOk X pins H b) (ho : ∀ b ∈ fp, ∃ o, s.heap.get? b = some o ∧ ∀ v, o.data ≠ .cell v) : Inv X (pins ++ pinsAt fp s.heap) σ H s :=
  I.pins_of fun p hp => (List.mem_append.mp hp).elim (fun z => I.pin p (List.mem_append_right _ z)) fun z => by
    obtain ⟨hb, e⟩ := of_pinsAt z
    obtain ⟨f0, f1, f2, _⟩ := hf p.1 hb
    obtain ⟨o, e', d⟩ := ho p.1 hb
    rw [e] at e'; cases e'
    exact ⟨e, f0, f1, f2, d⟩
theorem Inv.unpinned {pins pl : List (Addr × Obj)} {σ : St} {H : Hp} {s : Shared} (I : Inv X (pins ++ pl) σ H s) : Inv X pins σ H s := I.pins_of fun p hp => I.pin p (List.mem_append_right _ (List.mem_append_left _ hp))
theorem ps_for {iter : Expr} {body : List Stmt} {wi : TI} {g : TG} {tb : TS} {pos : Pos} (hp : PassesOwn (model X.prog X.w) X.A X.env X.xe) (hc : X.calm = true) (hi : PI X tg iter wi) (hg : PG X tg g) (hb : PSs X body tb)
    (hs : ∀ x, foldedSetIterable iter X.env x = pure x := by intro _; rfl) : PS X (.For tg iter body [] pos) (tFor wi g tb) := by
  intro pins s σ H D I h
  refine wpAny_For (thn (hi pins s σ H _ I h) fun v s1 h1 => thn h1 fun itv s2 h2 => ?_) hs
  obtain ⟨it, fp, tn, J, H2, e, I2, T, st2, f2, W, ⟨m0, w0⟩, turn⟩ := h2
  subst e
  -- what stays true of the iterator's objects through the loop
  have stat : ∀ {H' : Hp}, (∀ b ∈ fp, H' b = none) → ∀ b ∈ fp, FpOk X pins H' b := fun hn b hb => ⟨hn b hb, (f2 b hb).2⟩
  refine codeAny_forLoop_any (fun n s' => ∃ i σ' H', Inv X pins σ' H' s' ∧ tn i s'.heap ∧ (∀ b ∈ fp, H' b = none) ∧ W i n σ' H') ?_ m0 ⟨0, σ, H2, I2, st2, fun b hb => (f2 b hb).1, w0⟩
  rintro n s3 ⟨i, σ3, H3, I3, st3, fr3, w3⟩
  rcases turn i n σ3 H3 w3 with ⟨stop, qn⟩ | ⟨go, N, hN, step⟩
  · refine wpAny_passesOwn hp (thn (T.done X rfl rfl rfl hc i pins s3 σ3 H3 X.xe I3 (stat fr3) st3 stop) fun r s4 ⟨hr, I4⟩ => ?_)
    subst hr
    exact wpAny_execs_nil ⟨σ3, H3, I4, qn⟩
  · refine wpAny_passesOwn hp (thn (T.item X rfl rfl rfl hc i pins s3 σ3 H3 X.xe I3 (stat fr3) st3 go) fun r s4 ⟨u, hr, h4⟩ => ?_)
    subst hr
    refine wpAny_passesOwn hp (thn h4 fun _ s5 ⟨x, H5, I5, r5, y5, st5, fr5⟩ => ?_)
    have I5' := I5.pinned (stat fr5) (T.obj _ _ st5)
    refine wpAny_passesOwn hp (thn (hg _ s5 σ3 H5 x u _ I5' r5 (step x H5 y5)) fun _ s6 ⟨σ6, H6, I6, q6⟩ => ?_)
    refine wpAny_passesOwn hp (thn (hb _ s6 σ6 H6 _ I6 q6) fun f s7 q7 => ?_)
    have again : ∀ {σ7 : St} {H7 : Hp}, Inv X (pins ++ pinsAt fp s5.heap) σ7 H7 s7 → N σ7 H7 → ∃ m, m < n ∧ ∃ i σ' H', Inv X pins σ' H' s7 ∧ tn i s7.heap ∧ (∀ b ∈ fp, H' b = none) ∧ W i m σ' H' := fun {σ7 H7} I7 n7 => by
      obtain ⟨m', hm, w7⟩ := hN σ7 H7 n7
      refine ⟨m', hm, i + 1, σ7, H7, I7.unpinned, T.keep _ _ _ st5 fun b hb o e => (I7.pin (b, o) (List.mem_append_right _ (List.mem_append_right _ (mem_pinsAt hb e)))).1, fun b hb => ?_, w7⟩
      obtain ⟨o, e, d⟩ := T.obj _ _ st5 b hb
      exact (I7.pin (b, o) (List.mem_append_right _ (List.mem_append_right _ (mem_pinsAt hb e)))).2.1
    cases f with
    | next => obtain ⟨σ7, H7, I7, n7⟩ := q7; exact again I7 n7
    | cont => obtain ⟨σ7, H7, I7, n7⟩ := q7; exact again I7 n7
    | brk => obtain ⟨σ7, H7, I7, q7⟩ := q7; exact ⟨σ7, H7, I7.unpinned, q7⟩
    | ret v => obtain ⟨x7, σ7, H7, I7, r7, q7⟩ := q7; exact ⟨x7, σ7, H7, I7.unpinned, r7, q7⟩
end

/-! ### the forms one uses -/
/-- over a list that the body leaves as it is -/
theorem for_list {K : PySem.W.Frag} {a : Addr} {xs : List V} {g : TG} {tb : TS} {D : Ends} {σ : St} {H : Hp} (Pv : Nat → St → Hp → Prop) (h0 : Pv 0 σ H) (hl : ∀ i σ H, i ≤ xs.length → Pv i σ H → SqL K H a xs)
    (hs : ∀ i x σ H, xs[i]? = some x → Pv i σ H → g x σ H fun σ2 H2 => tb { D with nx := Pv (i + 1), ct := Pv (i + 1), bk := D.nx } σ2 H2) (hd : ∀ σ H, Pv xs.length σ H → D.nx σ H) :
    ∃ W : Nat → Nat → St → Hp → Prop, (∃ m, W 0 m σ H) ∧ ∀ i m σ H, W i m σ H →
      ((Itl K a).stop i H ∧ D.nx σ H) ∨ ((Itl K a).go i H ∧ ∃ N : St → Hp → Prop, (∀ σ' H', N σ' H' → ∃ m', m' < m ∧ W (i + 1) m' σ' H') ∧ ∀ x H', (Itl K a).yld i H x H' → g x σ H' fun σ2 H2 => tb { D with nx := N, ct := N, bk := D.nx } σ2 H2) := by
  refine ⟨fun i m σ H => m = xs.length - i ∧ i ≤ xs.length ∧ Pv i σ H, ⟨xs.length, by simp, Nat.zero_le _, h0⟩, ?_⟩
  rintro i m σ H ⟨rfl, hi, p⟩
  have q := hl i σ H hi p
  by_cases hlt : i < xs.length
  · refine .inr ⟨⟨xs, xs[i], q, by simp [hlt]⟩, Pv (i + 1), fun σ' H' p' => ⟨xs.length - (i + 1), by omega, rfl, hlt, p'⟩, fun x H' y => ?_⟩
    obtain ⟨e, y⟩ := y
    subst e
    exact hs i x σ _ (y xs q) p
  · have e : i = xs.length := by omega
    subst e
    exact .inl ⟨⟨xs, q, Nat.le_refl _⟩, hd σ H p⟩
theorem for_tup {K : PySem.W.Frag} {a : Addr} {xs : List V} {g : TG} {tb : TS} {D : Ends} {σ : St} {H : Hp} (Pv : Nat → St → Hp → Prop) (h0 : Pv 0 σ H) (hl : ∀ i σ H, i ≤ xs.length → Pv i σ H → SqT K H a xs)
    (hs : ∀ i x σ H, xs[i]? = some x → Pv i σ H → g x σ H fun σ2 H2 => tb { D with nx := Pv (i + 1), ct := Pv (i + 1), bk := D.nx } σ2 H2) (hd : ∀ σ H, Pv xs.length σ H → D.nx σ H) :
    ∃ W : Nat → Nat → St → Hp → Prop, (∃ m, W 0 m σ H) ∧ ∀ i m σ H, W i m σ H →
      ((Itt K a).stop i H ∧ D.nx σ H) ∨ ((Itt K a).go i H ∧ ∃ N : St → Hp → Prop, (∀ σ' H', N σ' H' → ∃ m', m' < m ∧ W (i + 1) m' σ' H') ∧ ∀ x H', (Itt K a).yld i H x H' → g x σ H' fun σ2 H2 => tb { D with nx := N, ct := N, bk := D.nx } σ2 H2) := by
  refine ⟨fun i m σ H => m = xs.length - i ∧ i ≤ xs.length ∧ Pv i σ H, ⟨xs.length, by simp, Nat.zero_le _, h0⟩, ?_⟩
  rintro i m σ H ⟨rfl, hi, p⟩
  have q := hl i σ H hi p
  by_cases hlt : i < xs.length
  · refine .inr ⟨⟨xs, xs[i], q, by simp [hlt]⟩, Pv (i + 1), fun σ' H' p' => ⟨xs.length - (i + 1), by omega, rfl, hlt, p'⟩, fun x H' y => ?_⟩
    obtain ⟨e, y⟩ := y
    subst e
    exact hs i x σ _ (y xs q) p
  · have e : i = xs.length := by omega
    subst e
    exact .inl ⟨⟨xs, q, Nat.le_refl _⟩, hd σ H p⟩
theorem for_range {lo : Int} {n : Nat} {g : TG} {tb : TS} {D : Ends} {σ : St} {H : Hp} (Pv : Nat → St → Hp → Prop) (h0 : Pv 0 σ H)
    (hs : ∀ i σ H, i < n → Pv i σ H → g (.int (lo + i)) σ H fun σ2 H2 => tb { D with nx := Pv (i + 1), ct := Pv (i + 1), bk := D.nx } σ2 H2) (hd : ∀ σ H, Pv n σ H → D.nx σ H) :
    ∃ W : Nat → Nat → St → Hp → Prop, (∃ m, W 0 m σ H) ∧ ∀ i m σ H, W i m σ H →
      ((Itr lo n).stop i H ∧ D.nx σ H) ∨ ((Itr lo n).go i H ∧ ∃ N : St → Hp → Prop, (∀ σ' H', N σ' H' → ∃ m', m' < m ∧ W (i + 1) m' σ' H') ∧ ∀ x H', (Itr lo n).yld i H x H' → g x σ H' fun σ2 H2 => tb { D with nx := N, ct := N, bk := D.nx } σ2 H2) := by
  refine ⟨fun i m σ H => m = n - i ∧ i ≤ n ∧ Pv i σ H, ⟨n, by simp, Nat.zero_le _, h0⟩, ?_⟩
  rintro i m σ H ⟨rfl, hi, p⟩
  by_cases hlt : i < n
  · refine .inr ⟨hlt, Pv (i + 1), fun σ' H' p' => ⟨n - (i + 1), by omega, rfl, hlt, p'⟩, fun x H' y => ?_⟩
    obtain ⟨e, y⟩ := y
    subst e y
    exact hs i σ _ hlt p
  · have e : i = n := by omega
    subst e
    exact .inl ⟨Nat.le_refl _, hd σ H p⟩
/-- while, by a word and a measure of the state -/
theorem while_by {c : TT} {tb : TS} {D : Ends} {σ : St} {H : Hp} (Pv : St → Hp → Prop) (μ : St → Hp → Nat) (h0 : Pv σ H)
    (hs : ∀ σ H, Pv σ H → c σ H fun b H1 => if b = true then tb { D with nx := fun σ' H' => Pv σ' H' ∧ μ σ' H' < μ σ H, ct := fun σ' H' => Pv σ' H' ∧ μ σ' H' < μ σ H, bk := D.nx } σ H1 else D.nx σ H1)
    (mono : ∀ σ H Q Q', (∀ b H1, Q b H1 → Q' b H1) → c σ H Q → c σ H Q') : tWhile c tb D σ H := by
  refine ⟨fun m σ H => m = μ σ H ∧ Pv σ H, ⟨_, rfl, h0⟩, ?_⟩
  rintro m σ H ⟨rfl, p⟩
  refine mono σ H _ _ (fun b H1 q => ?_) (hs σ H p)
  cases b with
  | true => exact ⟨_, fun σ' H' ⟨p', l⟩ => ⟨_, l, rfl, p'⟩, q⟩
  | false => exact q
end L2

namespace L2
open PySem PySem.Spec PyProof.Rows

abbrev R2 := V → V → Hp → VK → Prop
/-- a two-place operation on values: f is binaryOp op, inplaceOp op or compareOp op -/
def OpR (X : Cx) (f : Value → Value → Sem Value) (r : R2) : Prop :=
  ∀ (pins : List (Addr × Obj)) (s : Shared) (σ : St) (H : Hp) (x y : V) (v u : Value) (Q : VK), Inv X pins σ H s → RelV x v → RelV y u → r x y H Q →
    wpAny (model X.prog X.w) X.A (f v u) (EP X pins σ Q) X.xe s
/-- a call of a value that is known (a builtin, a type) with values -/
def CallR (X : Cx) (f : Value) (r : List V → Hp → VK → Prop) : Prop :=
  ∀ (pins : List (Addr × Obj)) (s : Shared) (σ : St) (H : Hp) (xs : List V) (us : List Value) (Q : VK), Inv X pins σ H s → Vals xs us → r xs H Q →
    wpAny (model X.prog X.w) X.A (call f us) (EP X pins σ Q) X.xe s
def tOp (r : R2) (ta tb : TE) : TE := fun σ H Q => ta σ H fun x H1 => tb σ H1 fun y H2 => r x y H2 Q
/-- ints in, under C, and a value out -/
def rI (C : Int → Int → Prop) (g : Int → Int → V) : R2 := fun x y H Q => ∃ i j, x = .int i ∧ y = .int j ∧ C i j ∧ Q (g i j) H
def rI0 (g : Int → Int → V) : R2 := fun x y H Q => ∃ i j, x = .int i ∧ y = .int j ∧ Q (g i j) H
section
variable {X : Cx} {a b c : Expr} {ta tb tc : TE} {pos : Pos}

theorem binT (ha : PE X a ta) (hb : PE X b tb) {pins : List (Addr × Obj)} {s : Shared} {σ : St} {H : Hp} {R : V → V → Hp → Prop} (I : Inv X pins σ H s)
    (h : ta σ H fun x H1 => tb σ H1 fun y H2 => R x y H2) {Q : Value → Shared → Prop} {f : Value → Value → Sem Value}
    (hf : ∀ v u s2 x y H2, Inv X pins σ H2 s2 → RelV x v → RelV y u → R x y H2 → wpAny (model X.prog X.w) X.A (f v u) Q X.xe s2) :
    wpAny (model X.prog X.w) X.A (eval a X.env) (fun v s₁ => wpAny (model X.prog X.w) X.A (eval b X.env) (fun u s₂ => wpAny (model X.prog X.w) X.A (f v u) Q X.xe s₂) X.xe s₁) X.xe s := by
  refine thn (ha pins s σ H _ I h) fun v s1 ⟨x, H1, I1, r1, q1⟩ => ?_
  refine thn (hb pins s1 σ H1 _ I1 q1) fun u s2 ⟨y, H2, I2, r2, q2⟩ => ?_
  exact hf v u s2 x y H2 I2 r1 r2 q2

theorem pe_op {op : Operator} {r : R2} (ho : OpR X (binaryOp op) r) (ha : PE X a ta) (hb : PE X b tb) : PE X (.BinOp a op b pos) (tOp r ta tb) := by
  intro pins s σ H Q I h
  exact wpAny_BinOp (binT ha hb I h fun v u s2 x y H2 I2 rx ry q => ho pins s2 σ H2 x y v u Q I2 rx ry q)
/-! ### ints -/
theorem opI {f : Value → Value → Sem Value} {C : Int → Int → Prop} {g : Int → Int → Int}
    (rule : ∀ (i j : Int) (t u : Tok) (s : Shared) (Q : Value → Shared → Prop) (E : Value → Shared → Prop), C i j → Q (.int (g i j) s.toks) { s with toks := s.toks + 1 } → wpAny (model X.prog X.w) X.A (f (.int i t) (.int j u)) Q E s) :
    OpR X f (rI C fun i j => .int (g i j)) := by
  intro pins s σ H x y v u Q I rx ry h
  obtain ⟨i, j, rfl, rfl, hc, q⟩ := h
  obtain ⟨t, rfl⟩ := rx
  obtain ⟨t', rfl⟩ := ry
  exact rule i j t t' s _ _ hc ⟨.int (g i j), H, I.tok _, ⟨_, rfl⟩, q⟩
theorem opI0 {f : Value → Value → Sem Value} {g : Int → Int → Int}
    (rule : ∀ (i j : Int) (t u : Tok) (s : Shared) (Q : Value → Shared → Prop) (E : Value → Shared → Prop), Q (.int (g i j) s.toks) { s with toks := s.toks + 1 } → wpAny (model X.prog X.w) X.A (f (.int i t) (.int j u)) Q E s) :
    OpR X f (rI0 fun i j => .int (g i j)) := by
  intro pins s σ H x y v u Q I rx ry h
  obtain ⟨i, j, rfl, rfl, q⟩ := h
  obtain ⟨t, rfl⟩ := rx
  obtain ⟨t', rfl⟩ := ry
  exact rule i j t t' s _ _ ⟨.int (g i j), H, I.tok _, ⟨_, rfl⟩, q⟩
theorem opB0 {f : Value → Value → Sem Value} {g : Int → Int → Bool}
    (rule : ∀ (i j : Int) (t u : Tok) (s : Shared) (Q : Value → Shared → Prop) (E : Value → Shared → Prop), Q (.bool (g i j)) s → wpAny (model X.prog X.w) X.A (f (.int i t) (.int j u)) Q E s) :
    OpR X f (rI0 fun i j => .bl (g i j)) := by
  intro pins s σ H x y v u Q I rx ry h
  obtain ⟨i, j, rfl, rfl, q⟩ := h
  obtain ⟨t, rfl⟩ := rx
  obtain ⟨t', rfl⟩ := ry
  exact rule i j t t' s _ _ ⟨.bl (g i j), H, I, rfl, q⟩

def CDiv (i j : Int) : Prop := 0 < j ∧ j < 1073741824
def CMul (i j : Int) : Prop := (-(2 ^ 64) < i ∧ i < 2 ^ 64) ∨ (-(2 ^ 64) < j ∧ j < 2 ^ 64)
theorem CMul.ok {i j : Int} (h : CMul i j) : IntMulOk i j := by
  rcases h with ⟨h1, h2⟩ | ⟨h1, h2⟩
  · exact .of_left (intBits_le_64 h1 h2)
  · exact .of_right (intBits_le_64 h1 h2)
theorem op_add : OpR X (binaryOp .Add) (rI0 fun i j => .int (i + j)) := opI0 fun _ _ _ _ _ _ _ q => add_int q
theorem op_sub : OpR X (binaryOp .Sub) (rI0 fun i j => .int (i - j)) := opI0 fun _ _ _ _ _ _ _ q => sub_int q
theorem op_mul : OpR X (binaryOp .Mult) (rI CMul fun i j => .int (i * j)) := opI fun _ _ _ _ _ _ _ hc q => mul_int q hc.ok
/-- // by a positive divisor -/
theorem op_fdiv : OpR X (binaryOp .FloorDiv) (rI CDiv fun i j => .int (i / j)) := opI fun i j _ _ _ _ _ hc q => by
  have h1 : (0 : Int) < j := hc.1
  have h2 : j < 1073741824 := hc.2
  exact floordiv_int (by omega) (by rw [Int.fdiv_eq_ediv_of_nonneg i (by omega)]; exact q) (.inl (PyProof.noPylong_small (by omega)))
/-! ### bools among ints: n += (a < b) -/
end

/-! ### comparisons -/
/-- the scalars that == tells apart as data does -/
def scal : V → V → Bool
  | .non, .non => true | .non, .int _ => true | .int _, .non => true | .non, .bl _ => true | .bl _, .non => true | .non, .str _ => true | .str _, .non => true
  | .int _, .int _ => true | .bl _, .bl _ => true | .str _, .str _ => true | .byt _, .byt _ => true
  | .int _, .str _ => true | .str _, .int _ => true | .bl _, .str _ => true | .str _, .bl _ => true
  | _, _ => false
def rEq : R2 := fun x y H Q => scal x y = true ∧ Q (.bl (decide (x = y))) H
def rNe : R2 := fun x y H Q => scal x y = true ∧ Q (.bl (!decide (x = y))) H

theorem dec_int {i j : Int} : decide (V.int i = V.int j) = (i == j) := by
  rw [Bool.eq_iff_iff]
  simp
theorem dec_bl {i j : Bool} : decide (V.bl i = V.bl j) = (i == j) := by
  rw [Bool.eq_iff_iff]
  simp
theorem dec_str {i j : Str} : decide (V.str i = V.str j) = (i == j) := by
  rw [Bool.eq_iff_iff]
  simp
theorem dec_byt {i j : Array UInt8} : decide (V.byt i = V.byt j) = (i.toList == j.toList) := by
  rw [Bool.eq_iff_iff]
  cases i
  cases j
  simp

section
variable {X : Cx} {a b c : Expr} {ta tb tc : TE} {pos : Pos}
theorem fin_bl {pins : List (Addr × Obj)} {σ : St} {H : Hp} {s : Shared} {Q : VK} {k k' : Bool} (I : Inv X pins σ H s) (q : Q (.bl k) H) (e : k = k') : EP X pins σ Q (.bool k') s := by
  subst e
  exact ⟨.bl k, H, I, rfl, q⟩
theorem op_eq : OpR X (compareOp .Eq) rEq := by
  intro pins s σ H x y v u Q I rx ry h
  obtain ⟨hs, q⟩ := h
  cases x with
  | non =>
    cases rx
    cases y with
    | non => cases ry; exact PySem.EqNone.eq_none_none (fin_bl I q (by simp))
    | bl j => cases ry; exact PySem.EqNone.eq_none_bool (fin_bl I q (by simp))
    | int j => obtain ⟨t', rfl⟩ := ry; exact PySem.EqNone.eq_none_int (fin_bl I q (by simp))
    | str j => obtain ⟨t', rfl⟩ := ry; exact PySem.EqNone.eq_none_str (fin_bl I q (by simp))
    | _ => exact absurd (show false = true from hs) Bool.false_ne_true
  | bl i =>
    cases rx
    cases y with
    | non => cases ry; exact PySem.EqNone.eq_bool_none (fin_bl I q (by simp))
    | bl j => cases ry; exact eq_bool (fin_bl I q dec_bl)
    | str j => obtain ⟨t', rfl⟩ := ry; exact PySem.EqMixed.eq_bool_str (fin_bl I q (by simp))
    | _ => exact absurd (show false = true from hs) Bool.false_ne_true
  | int i =>
    obtain ⟨t, rfl⟩ := rx
    cases y with
    | non => cases ry; exact PySem.EqNone.eq_int_none (fin_bl I q (by simp))
    | int j => obtain ⟨t', rfl⟩ := ry; exact eq_int (fin_bl I q dec_int)
    | str j => obtain ⟨t', rfl⟩ := ry; exact PySem.EqMixed.eq_int_str (fin_bl I q (by simp))
    | _ => exact absurd (show false = true from hs) Bool.false_ne_true
  | str i =>
    obtain ⟨t, rfl⟩ := rx
    cases y with
    | non => cases ry; exact PySem.EqNone.eq_str_none (fin_bl I q (by simp))
    | bl j => cases ry; exact PySem.EqMixed.eq_str_bool (fin_bl I q (by simp))
    | int j => obtain ⟨t', rfl⟩ := ry; exact PySem.EqMixed.eq_str_int (fin_bl I q (by simp))
    | str j => obtain ⟨t', rfl⟩ := ry; exact eq_str (fin_bl I q dec_str)
    | _ => exact absurd (show false = true from hs) Bool.false_ne_true
  | byt i =>
    obtain ⟨t, rfl⟩ := rx
    cases y with
    | byt j => obtain ⟨t', rfl⟩ := ry; exact PySem.W.eq_bytes (fin_bl I q dec_byt)
    | _ => exact absurd (show false = true from hs) Bool.false_ne_true
  | _ => cases y <;> exact absurd (show false = true from hs) Bool.false_ne_true
theorem op_ne : OpR X (compareOp .NotEq) rNe := by
  intro pins s σ H x y v u Q I rx ry h
  obtain ⟨hs, q⟩ := h
  cases x with
  | non =>
    cases rx
    cases y with
    | non => cases ry; exact PySem.EqNone.ne_none_none (fin_bl I q (by simp))
    | bl j => cases ry; exact PySem.EqNone.ne_none_bool (fin_bl I q (by simp))
    | int j => obtain ⟨t', rfl⟩ := ry; exact PySem.EqNone.ne_none_int (fin_bl I q (by simp))
    | str j => obtain ⟨t', rfl⟩ := ry; exact PySem.EqNone.ne_none_str (fin_bl I q (by simp))
    | _ => exact absurd (show false = true from hs) Bool.false_ne_true
  | bl i =>
    cases rx
    cases y with
    | non => cases ry; exact PySem.EqNone.ne_bool_none (fin_bl I q (by simp))
    | bl j => cases ry; exact ne_bool (fin_bl I q (congrArg not dec_bl))
    | str j => obtain ⟨t', rfl⟩ := ry; exact PySem.EqMixed.ne_bool_str (fin_bl I q (by simp))
    | _ => exact absurd (show false = true from hs) Bool.false_ne_true
  | int i =>
    obtain ⟨t, rfl⟩ := rx
    cases y with
    | non => cases ry; exact PySem.EqNone.ne_int_none (fin_bl I q (by simp))
    | int j => obtain ⟨t', rfl⟩ := ry; exact ne_int (fin_bl I q (congrArg not dec_int))
    | str j => obtain ⟨t', rfl⟩ := ry; exact PySem.EqMixed.ne_int_str (fin_bl I q (by simp))
    | _ => exact absurd (show false = true from hs) Bool.false_ne_true
  | str i =>
    obtain ⟨t, rfl⟩ := rx
    cases y with
    | non => cases ry; exact PySem.EqNone.ne_str_none (fin_bl I q (by simp))
    | bl j => cases ry; exact PySem.EqMixed.ne_str_bool (fin_bl I q (by simp))
    | int j => obtain ⟨t', rfl⟩ := ry; exact PySem.EqMixed.ne_str_int (fin_bl I q (by simp))
    | str j => obtain ⟨t', rfl⟩ := ry; exact ne_str (fin_bl I q (congrArg not dec_str))
    | _ => exact absurd (show false = true from hs) Bool.false_ne_true
  | byt i =>
    obtain ⟨t, rfl⟩ := rx
    cases y with
    | byt j => obtain ⟨t', rfl⟩ := ry; exact PySem.W.ne_bytes (fin_bl I q (congrArg not dec_byt))
    | _ => exact absurd (show false = true from hs) Bool.false_ne_true
  | _ => cases y <;> exact absurd (show false = true from hs) Bool.false_ne_true

theorem op_lt : OpR X (compareOp .Lt) (rI0 fun i j => .bl (decide (i < j))) := opB0 fun _ _ _ _ _ _ _ q => lt_int q
theorem op_le : OpR X (compareOp .LtE) (rI0 fun i j => .bl (decide (i ≤ j))) := opB0 fun _ _ _ _ _ _ _ q => le_int q
theorem op_gt : OpR X (compareOp .Gt) (rI0 fun i j => .bl (decide (j < i))) := opB0 fun _ _ _ _ _ _ _ q => gt_int q
theorem op_ge : OpR X (compareOp .GtE) (rI0 fun i j => .bl (decide (j ≤ i))) := opB0 fun _ _ _ _ _ _ _ q => ge_int q
theorem nomark (b : Expr) {op : CmpOp} (h : op ≠ .In := by decide) (h2 : op ≠ .NotIn := by decide) : behindInMarks op b = false := by
  have e1 : (op == CmpOp.In) = false := by cases op <;> first | rfl | exact absurd rfl h
  have e2 : (op == CmpOp.NotIn) = false := by cases op <;> first | rfl | exact absurd rfl h2
  cases b <;> simp [behindInMarks, e1, e2]
/-- a comparison as a value; hm: nomark b, or (for in, not in) by with_unfolding_all rfl -/
theorem pe_cmpR {op : CmpOp} {r : R2} (ho : OpR X (compareOp op) r) (ha : PE X a ta) (hb : PE X b tb) (hm : behindInMarks op b = false) : PE X (.Compare a [op] [b] pos) (tOp r ta tb) := by
  intro pins s σ H Q I h
  exact wpAny_Compare1 (binT ha hb I h fun v u s2 x y H2 I2 rx ry q => ho pins s2 σ H2 x y v u Q I2 rx ry q) hm
/-- a reading of a value as a test -/
def tTest (t : TE) : TT := fun σ H Q => t σ H fun x H' => ∃ k, x = .bl k ∧ Q k H'
theorem pt_cmpR {op : CmpOp} {r : R2} (ho : OpR X (compareOp op) r) (ha : PE X a ta) (hb : PE X b tb) (hm : behindInMarks op b = false) : PT X (.Compare a [op] [b] pos) (tTest (tOp r ta tb)) := by
  intro pins s σ H Q I h
  refine wpAny_isTrue_Compare1 (thn (ha pins s σ H _ I h) fun v s1 ⟨x, H1, I1, r1, q1⟩ => thn (hb pins s1 σ H1 _ I1 q1) fun u s2 ⟨y, H2, I2, r2, q2⟩ =>
    thn (ho pins s2 σ H2 x y v u _ I2 r1 r2 q2) fun c s3 ⟨z, H3, I3, r3, k, e, q3⟩ => ?_) hm
  subst e
  cases r3
  exact wpAny_truthy_bool ⟨H3, I3, q3⟩
/-! ### truth -/
theorem line63 : (sizeLine : Nat) < 2 ^ 63 := by rw [sizeLine_eq]; decide
/-! ### strs and bytes -/
/-! ### scalar builtins, by CallR -/
theorem vals1 {x : V} {us : List Value} (r : Vals [x] us) : ∃ u, us = [u] ∧ RelV x u := by
  cases r with
  | cons r1 r2 => cases r2; exact ⟨_, rfl, r1⟩
theorem vals2 {x y : V} {us : List Value} (r : Vals [x, y] us) : ∃ u w', us = [u, w'] ∧ RelV x u ∧ RelV y w' := by
  cases r with
  | cons r1 r2 =>
    cases r2 with
    | cons r3 r4 => cases r4; exact ⟨_, _, rfl, r1, r3⟩
theorem call_max2 (hc : X.calm = true) : CallR X (.builtin "max") (fun xs H Q => ∃ i j, xs = [.int i, .int j] ∧ Q (.int (if j > i then j else i)) H) := by
  intro pins s σ H xs us Q I r h
  obtain ⟨i, j, rfl, q⟩ := h
  obtain ⟨u, w', rfl, ⟨t, rfl⟩, ⟨t', rfl⟩⟩ := vals2 r
  refine max_two_ints (I.ok.hd hc) fun h' tk k => ⟨_, H, I.kept k, ?_, q⟩
  by_cases hj : j > i
  · rw [if_pos hj, if_pos hj]; exact ⟨_, rfl⟩
  · rw [if_neg hj, if_neg hj]; exact ⟨_, rfl⟩
end
end L2

namespace L2
open PySem PySem.Spec PyProof.Rows

/-! ### an instance, its attributes a map -/
structure ObjM (h : Heap) (x dx C : Addr) (mA : Str → Option Value) : Prop where
  obj : h.get? x = some (PySem.W.instObj C dx)
  ns : h.Ns1 dx mA
  ne : dx ≠ x

theorem lookIn_ns {h : Heap} {dx : Addr} {mA : Str → Option Value} (n : h.Ns1 dx mA) : ∃ od, h.get? dx = some od ∧ ∀ name, PySem.W.lookIn name od = some (mA name) := by
  obtain ⟨o, es, ep, ho, hd, hk, _, hm⟩ := n
  refine ⟨o, ho, fun name => ?_⟩
  have e := hm name
  unfold nsFind findBy at e
  rw [← Array.find?_toList] at e
  unfold PySem.W.lookIn
  rw [hd]
  dsimp only
  split
  · rename_i y q
    rw [q] at e
    exact congrArg some e
  · rename_i q
    rw [q] at e
    have a : es.toList.any (·.refKey) = false := by
      rw [List.any_eq_false]
      intro y hy
      obtain ⟨z, t, hkey⟩ := hk y (Array.mem_toList_iff.mp hy)
      simp [DictEntry.refKey, hkey]
    have a' : ¬ es.toList.any (·.refKey) = true := by rw [a]; exact Bool.false_ne_true
    rw [if_neg a']
    exact congrArg some e

theorem ObjM.look {h : Heap} {x dx C : Addr} {mA : Str → Option Value} (I : ObjM h x dx C mA) : ∃ od, PySem.W.InstAt h x (PySem.W.instObj C dx) C (some od) ∧ ∀ name, PySem.W.lookIn name od = some (mA name) :=
  let ⟨od, ho, hl⟩ := lookIn_ns I.ns
  ⟨od, ⟨I.obj, rfl, rfl, ho⟩, hl⟩

section
variable {prog : Program} {w : World} {A : Around} {E : Value → Shared → Prop} {s : Shared} {K : PySem.W.Frag} {x dx C f : Addr} {mA : Str → Option Value} {name : Str} {v : Value}

theorem get_map {expr : Bool} {Q : Value → Shared → Prop} (X : K.In s.heap) (I : ObjM s.heap x dx C mA) (hg : PySem.W.plainGet K C name = true) (hh : PySem.W.hasDictIn K C = true)
    (ha : PySem.W.findIn K (.ref C) name = some none) (hv : mA name = some v) (hv' : PySem.W.handedIn v = true) (h : Q v { s with toks := s.toks + 1 }) :
    wpAny (model prog w) A (getAttr (.ref x) name expr) Q E s := by
  obtain ⟨od, J, hl⟩ := I.look
  exact PySem.W.get_value X J (PySem.W.plainGet_of hg).1 (PySem.W.findObj_own hh ha rfl (by rw [hl, hv])) hv' h

theorem set_map {ns : List Str} {Q : Unit → Shared → Prop} (X : K.In s.heap) (I : ObjM s.heap x dx C mA)
    (hs : PySem.W.findIn K (.ref C) "__setattr__" = some (some (.builtin "object.__setattr__"))) (hp : PySem.W.plainOver K C = true) (ht : PySem.W.takerIn K C name = some none) (hh : PySem.W.hasDictIn K C = true)
    (hw : PySem.Within mA ns) (hsz : ns.length ≤ sizeLine)
    (h : ∀ h', ObjM h' x dx C (fun y => if y = name then some v else mA y) → Heap.SameBut dx s.heap h' → Q () { s with heap := h', toks := s.toks + 2 }) :
    wpAny (model prog w) A (setAttr (.ref x) name v) Q E s := by
  obtain ⟨od, J, hl⟩ := I.look
  refine PySem.W.set_plain X J hs (PySem.W.osa_open (s := { s with toks := s.toks + 1 }) (r := none) X J hp ht fun b => ?_)
  obtain ⟨cd, hc, hd'⟩ := PySem.W.any_some hh
  have hx : s.heap.get? x = some ⟨.ref C, some dx, .plain, #[]⟩ := I.obj
  refine wpAny_bind (wpAny_pure (wpAny_bind (wpAny_bind (wpAny_loadPart hx (wpAny_bind (PySem.W.Looks.here (s := { s with toks := s.toks + 1 }) (PySem.W.looks_clsIn X hc) ?_))))))
  rw [hd']
  refine wpAny_pure (a := some dx) (wpAny_bind (wpAny_pure (wpAny_bind ?_)))
  refine wpAny_nsSet1 (s := { s with toks := s.toks + 1 }) I.ns fun h' hn2 hs2 => ?_
  obtain ⟨oD, esD, epD, hoD, hdD, hcD⟩ := hn2.count (PySem.Within.cons name v hw)
  refine wpAny_bind (wpAny_lookBehind hoD (by rw [hdD]; exact pastItsLine_dict (Nat.le_trans hcD (by rw [List.length_cons]; omega))) ?_)
  exact wpAny_pure (h _ ⟨(hs2.2 _ (Ne.symm I.ne)).trans I.obj, hn2, I.ne⟩ hs2)

/-- C(..): the dict at the heap's end, the instance behind it; then its __init__ -/
theorem make_map {R : Result → Shared → Prop} {vs : List Value} {kw : List (Str × Value)} (X : K.In s.heap) (hm : PySem.W.makesIn K C = true)
    (hi : PySem.W.findIn K (.ref C) "__init__" = some (some (.ref f))) (hf : PySem.W.typeIn K (.ref f) = some (.type "function"))
    (h : codeAny (model prog w) (A.under (.builtin "type.__call__" ⟨.ref C :: vs, kw⟩)) (.call (.ref f) ⟨.ref (s.heap.objs.size + 1) :: vs, kw⟩) (PySem.W.InitBack (s.heap.objs.size + 1) R)
      { s with heap := (s.heap.push PySem.W.emptyDict).push (PySem.W.instObj C s.heap.objs.size) }) :
    codeAny (model prog w) A (.call (.ref C) ⟨vs, kw⟩) R s := by
  obtain ⟨hh, g, d, t, os⟩ := s
  exact PySem.W.make_core (PySem.W.makes_of X hm) (PySem.W.looks_findIn X hi) (fun self => PySem.W.bind_fn X self hf) (.inl rfl) h
end

/-! ### the attributes as a list of pairs -/
def putF (f : Str) (v : V) : List (Str × V) → List (Str × V)
  | [] => [(f, v)]
  | (g, x) :: r => if g = f then (g, v) :: r else (g, x) :: putF f v r
theorem lookup_putF (f g : Str) (v : V) : ∀ fs : List (Str × V), (putF f v fs).lookup g = if g = f then some v else fs.lookup g
  | [] => by
    show List.lookup g [(f, v)] = _
    by_cases h : g = f
    · have hb : (g == f) = true := beq_iff_eq.mpr h
      simp only [List.lookup, hb, if_pos h]
    · have hb : (g == f) = false := beq_eq_false_iff_ne.mpr h
      simp only [List.lookup, hb, if_neg h]
  | (k, x) :: r => by
    have ih := lookup_putF f g v r
    rw [show putF f v ((k, x) :: r) = (if k = f then (k, v) :: r else (k, x) :: putF f v r) from rfl]
    by_cases hk : k = f
    · rw [if_pos hk]
      by_cases h : g = k
      · have hb : (g == k) = true := beq_iff_eq.mpr h
        simp only [List.lookup, hb, if_pos (h.trans hk)]
      · have hb : (g == k) = false := beq_eq_false_iff_ne.mpr h
        simp only [List.lookup, hb, if_neg (fun e : g = f => h (e.trans hk.symm))]
    · rw [if_neg hk]
      by_cases h : g = k
      · have hb : (g == k) = true := beq_iff_eq.mpr h
        simp only [List.lookup, hb, if_neg (fun e : g = f => hk (h.symm.trans e))]
      · have hb : (g == k) = false := beq_eq_false_iff_ne.mpr h
        simp only [List.lookup, hb]
        exact ih
theorem keys_putF (f : Str) (v : V) : ∀ fs : List (Str × V), f ∈ (putF f v fs).map (·.1) ∧ ∀ g, g ∈ fs.map (·.1) → g ∈ (putF f v fs).map (·.1)
  | [] => ⟨by simp [putF], fun g h => by simp at h⟩
  | (k, x) :: r => by
    obtain ⟨i1, i2⟩ := keys_putF f v r
    rw [show putF f v ((k, x) :: r) = (if k = f then (k, v) :: r else (k, x) :: putF f v r) from rfl]
    by_cases hk : k = f
    · rw [if_pos hk]
      subst hk
      exact ⟨by simp, fun g h => by simpa using h⟩
    · rw [if_neg hk]
      refine ⟨?_, fun g h => ?_⟩
      · rw [List.map_cons]
        exact List.mem_cons_of_mem _ i1
      · rw [List.map_cons] at h ⊢
        rcases List.mem_cons.mp h with e | e
        · exact List.mem_cons.mpr (.inl e)
        · exact List.mem_cons_of_mem _ (i2 g e)
theorem length_putF (f : Str) (v : V) : ∀ fs : List (Str × V), (putF f v fs).length ≤ fs.length + 1
  | [] => by simp [putF]
  | (k, x) :: r => by
    have ih := length_putF f v r
    rw [show putF f v ((k, x) :: r) = (if k = f then (k, v) :: r else (k, x) :: putF f v r) from rfl]
    by_cases hk : k = f
    · rw [if_pos hk, List.length_cons, List.length_cons]; omega
    · rw [if_neg hk, List.length_cons, List.length_cons]; omega

theorem RelO.some_of {v : V} {o : Option Value} (r : RelO (some v) o) : ∃ u, o = some u ∧ RelV v u := by
  cases o with
  | none => exact (show False from r).elim
  | some u => exact ⟨u, rfl, r⟩
theorem handed_of {v : V} {u : Value} (r : RelV v u) : PySem.W.handedIn u = true := by
  cases v with
  | non => cases (show u = Value.none from r); rfl
  | bl b => cases (show u = Value.bool b from r); rfl
  | int i => obtain ⟨t, e⟩ := (show ∃ t, u = Value.int i t from r); cases e; rfl
  | str x => obtain ⟨t, e⟩ := (show ∃ t, u = Value.str x t from r); cases e; rfl
  | byt b => obtain ⟨t, e⟩ := (show ∃ t, u = Value.bytes b t from r); cases e; rfl
  | flt b => obtain ⟨t, e⟩ := (show ∃ t, u = Value.float b t from r); cases e; rfl
  | ref a => cases (show u = Value.ref a from r); rfl
  | ty n => cases (show u = Value.type n from r); rfl

section
variable {P : Program} {w : World} {H H' : Hp} {h h' : Heap} {a C dx : Addr} {fs fs' : List (Str × V)}
theorem ins_get (hok : HOk P w H h) (e : H a = some (.ins C dx fs)) : ∃ mA, ObjM h a dx C mA ∧ (∀ f, RelO (fs.lookup f) (mA f)) ∧ PySem.Within mA (fs.map (·.1)) ∧ fs.length ≤ 1000 ∧ H dx = some (.own a) := by
  obtain ⟨d, z, ne, ob, mA, n, r, q⟩ := (show ObjOk P w H h a (.ins C dx fs) from hok a _ e)
  exact ⟨mA, ⟨ob, n, ne⟩, r, q, z, d⟩
end

/-! ### what of the text a class must have -/
structure Cls (K : PySem.W.Frag) (C : Addr) : Prop where
  pg : PySem.W.plainGet K C Str.empty = true
  hd : PySem.W.hasDictIn K C = true
  po : PySem.W.plainOver K C = true
  sa : PySem.W.findIn K (.ref C) "__setattr__" = some (some (.builtin "object.__setattr__"))
theorem Cls.get {K : PySem.W.Frag} {C : Addr} (c : Cls K C) (f : Str) : PySem.W.plainGet K C f = true := c.pg
/-- no class of it has the name -/
def NoAttr (K : PySem.W.Frag) (C : Addr) (f : Str) : Prop := PySem.W.findIn K (.ref C) f = some none
theorem NoAttr.taker {K : PySem.W.Frag} {C : Addr} {f : Str} (n : NoAttr K C f) : PySem.W.takerIn K C f = some none := by
  unfold PySem.W.takerIn
  rw [show PySem.W.findIn K (.ref C) f = some none from n]
  rfl
section
variable {X : Cx} {pins : List (Addr × Obj)} {σ : St} {H : Hp} {s : Shared} {a C dx : Addr} {fs : List (Str × V)} {f : Str} {v : V} {A : Around} {E : Value → Shared → Prop}

theorem getattr_ok {b : Bool} {Q : Value → Shared → Prop} (I : Inv X pins σ H s) (e : H a = some (.ins C dx fs)) (c : Cls X.K C) (n : NoAttr X.K C f) (l : fs.lookup f = some v)
    (h : ∀ u s', Inv X pins σ H s' → RelV v u → Q u s') : wpAny (model X.prog X.w) A (getAttr (.ref a) f b) Q E s := by
  obtain ⟨mA, O, r, _, _, _⟩ := ins_get I.hok e
  obtain ⟨u, hu, ru⟩ := RelO.some_of (v := v) (o := mA f) (by rw [← l]; exact r f)
  exact get_map I.kIn O (c.get f) c.hd n hu (handed_of ru) (h u _ (I.tok _) ru)

theorem setattr_ok {y : V} {u : Value} {Q : Unit → Shared → Prop} (I : Inv X pins σ H s) (e : H a = some (.ins C dx fs)) (c : Cls X.K C) (n : NoAttr X.K C f) (hl : fs.length < 1000) (ry : RelV y u)
    (h : ∀ s', Inv X pins σ (upd H a (.ins C dx (putF f y fs))) s' → Q () s') : wpAny (model X.prog X.w) A (setAttr (.ref a) f u) Q E s := by
  obtain ⟨mA, O, r, wi, _, ho⟩ := ins_get I.hok e
  have hz : (fs.map (·.1)).length ≤ sizeLine := by rw [List.length_map, sizeLine_eq]; omega
  refine set_map I.kIn O c.sa c.po n.taker c.hd wi hz fun h' O' sb => h _ ?_
  have hd : ∃ o, h'.get? dx = some o := let ⟨o, _, _, e', _⟩ := O'.ns; ⟨o, e'⟩
  refine I.write (x := a) (e := dx) (by rw [e]; exact True.intro) (.inr ho) (fun b q hb z => (sb.2 b hb).trans z) hd ?_
  refine ⟨by rw [upd_ne O.ne]; exact ho, ?_, O.ne, O'.obj, _, O'.ns, fun g => ?_, fun g hg => ?_⟩
  · have := length_putF f y fs; omega
  · show RelO ((putF f y fs).lookup g) (if g = f then some u else mA g)
    rw [lookup_putF]
    by_cases q : g = f
    · rw [if_pos q, if_pos q]; exact ry
    · rw [if_neg q, if_neg q]; exact r g
  · by_cases q : g = f
    · rw [q]; exact (keys_putF f y fs).1
    · refine (keys_putF f y fs).2 g (wi g fun z => hg ?_)
      show (if g = f then some u else mA g) = none
      rw [if_neg q]; exact z

/-- a new instance, tracked, without attributes -/
theorem Inv.made (I : Inv X pins σ H s) : Inv X pins σ (upd (upd H s.heap.objs.size (.own (s.heap.objs.size + 1))) (s.heap.objs.size + 1) (.ins C s.heap.objs.size []))
    { s with heap := (s.heap.push PySem.W.emptyDict).push (PySem.W.instObj C s.heap.objs.size) } := by
  have e1 : (s.heap.push PySem.W.emptyDict).get? s.heap.objs.size = some PySem.W.emptyDict := Heap.get?_push_size s.heap rfl
  have e2 : ((s.heap.push PySem.W.emptyDict).push (PySem.W.instObj C s.heap.objs.size)).get? (s.heap.objs.size + 1) = some (PySem.W.instObj C s.heap.objs.size) := by
    have := Heap.get?_push_size (s.heap.push PySem.W.emptyDict) (o := PySem.W.instObj C s.heap.objs.size) rfl
    rwa [Heap.size_push] at this
  have e3 : (s.heap.push PySem.W.emptyDict).Ns s.heap.objs.size (fun _ => none) := ⟨PySem.W.emptyDict, #[], _, e1, rfl, (fun e he => absurd he (by simp)), fun _ => rfl⟩
  have I1 := I.laid (a := s.heap.objs.size) (o := .own (s.heap.objs.size + 1)) (h' := s.heap.push PySem.W.emptyDict) (t' := s.toks) (fun b u q => Heap.get?_push_of_some _ q) (Nat.le_refl _) ⟨_, e1⟩
  refine I1.laid (a := s.heap.objs.size + 1) (o := .ins C s.heap.objs.size []) (t' := s.toks) (fun b u q => Heap.get?_push_of_some _ q) (Nat.le_of_eq (Heap.size_push _ _)) ?_
  have ne : s.heap.objs.size ≠ s.heap.objs.size + 1 := Nat.ne_of_lt (Nat.lt_succ_self _)
  refine ⟨by rw [upd_ne ne, upd_same], Nat.zero_le _, ne, e2, fun _ => none, (Heap.Ns1.of_empty e3).at fun o q => Heap.get?_push_of_some _ q, fun _ => True.intro, fun y hy => absurd rfl hy⟩

/-- e.f where nothing but the object is asked: through attributeBase (super) and the last hold -/
theorem attr_of {prog : Program} {w : World} {env : Env} {e : Expr} {f : Str} {pos : Pos} {s : Shared} {Q : Value → Shared → Prop} (hb : attributeBase e f env (eval e env) = eval e env)
    (h : wpAny (model prog w) A (eval e env) (fun o s₁ => wpAny (model prog w) A (getAttr o f true) Q E s₁) E s) : wpAny (model prog w) A (eval (.Attribute e f pos) env) Q E s :=
  Attribute_any_ h (by rw [arm_eval_Attribute, hb])
end

/-! ### readings and rules -/
/-- e.f, an attribute of the instance -/
def tFld (K : PySem.W.Frag) (ta : TE) (f : Str) : TE := fun σ H Q => ta σ H fun x H1 => ∃ a C dx fs v, x = .ref a ∧ H1 a = some (.ins C dx fs) ∧ Cls K C ∧ NoAttr K C f ∧ fs.lookup f = some v ∧ Q v H1
/-- e.f = value -/
def sFld (K : PySem.W.Frag) (ta tv : TE) (f : Str) : TS := fun D σ H => tv σ H fun y H1 => ta σ H1 fun x H2 => ∃ a C dx fs, x = .ref a ∧ H2 a = some (.ins C dx fs) ∧ Cls K C ∧ NoAttr K C f ∧ fs.length < 1000 ∧
  D.nx σ (upd H2 a (.ins C dx (putF f y fs)))
/-- an augmented operator on two values -/
def InOp (X : Cx) (op : Operator) (rd : V → V → Hp → VK → Prop) : Prop :=
  ∀ (pins : List (Addr × Obj)) (s : Shared) (σ : St) (H : Hp) (x y : V) (u v : Value) (Q : VK), Inv X pins σ H s → RelV x u → RelV y v → rd x y H Q → wpAny (model X.prog X.w) X.A (inplaceOp op u v) (EP X pins σ Q) X.xe s
/-- e.f op= value -/
def sFldAug (K : PySem.W.Frag) (ta tv : TE) (rd : V → V → Hp → VK → Prop) (f : Str) : TS := fun D σ H => ta σ H fun x H1 => ∃ a C dx fs v, x = .ref a ∧ H1 a = some (.ins C dx fs) ∧ Cls K C ∧ NoAttr K C f ∧ fs.lookup f = some v ∧
  tv σ H1 fun y H2 => rd v y H2 fun z H3 => ∃ dx' fs', H3 a = some (.ins C dx' fs') ∧ fs'.length < 1000 ∧ D.nx σ (upd H3 a (.ins C dx' (putF f z fs')))

section
variable {X : Cx} {o e value : Expr} {f : Str} {pos pos' tpos : Pos} {ta tv : TE}
theorem pe_fld (he : PE X e ta) (hb : attributeBase e f X.env (eval e X.env) = eval e X.env) : PE X (.Attribute e f pos) (tFld X.K ta f) := by
  intro pins s σ H Q I h
  refine attr_of hb (thn (he pins s σ H _ I h) fun u s1 ⟨x, H1, I1, rx, a, C, dx, fs, v, ex, ea, c, n, l, q⟩ => ?_)
  subst ex
  obtain rfl : u = Value.ref a := rx
  exact getattr_ok I1 ea c n l fun u' s2 I2 ru => ⟨v, H1, I2, ru, q⟩
theorem ps_fld (ha : PE X o ta) (hv : PE X value tv) (hs : swapsWith value (some (.Attribute o f pos')) pos.line X.env = pure false) : PS X (.Assign [.Attribute o f pos'] value pos) (sFld X.K ta tv f) := by
  intro pins s σ H D I h
  refine plainObj_wpAny_Assign_Attribute (thn (hv pins s σ H _ I h) fun u s1 ⟨y, H1, I1, ry, q⟩ => thn (ha pins s1 σ H1 _ I1 q) fun ov s2 ⟨x, H2, I2, rx, a, C, dx, fs, ex, ea, c, n, l, q2⟩ => ?_) hs
  subst ex
  obtain rfl : ov = Value.ref a := rx
  exact setattr_ok I2 ea c n l ry fun s3 I3 => ⟨σ, _, I3, q2⟩
theorem ps_fldaug {op : Operator} {rd : V → V → Hp → VK → Prop} (ha : PE X o ta) (hv : PE X value tv) (hop : InOp X op rd) : PS X (.AugAssign (.Attribute o f tpos) op value pos) (sFldAug X.K ta tv rd f) := by
  intro pins s σ H D I h
  refine wpAny_AugAssign_AttributeAny (thn (ha pins s σ H _ I h) fun ov s1 ⟨x, H1, I1, rx, a, C, dx, fs, v, ex, ea, c, n, l, q⟩ => ?_)
  subst ex
  obtain rfl : ov = Value.ref a := rx
  refine getattr_ok I1 ea c n l fun u s2 I2 ru => thn (hv pins s2 σ H1 _ I2 q) fun w3 s3 ⟨y, H2, I3, ry, q3⟩ => thn (hop pins s3 σ H2 v y u w3 _ I3 ru ry q3) fun w4 s4 ⟨z, H3, I4, rz, dx', fs', ea', l', q4⟩ => ?_
  exact setattr_ok I4 ea' c n l' rz fun s5 I5 => ⟨σ, _, I5, q4⟩
def rAdd : V → V → Hp → VK → Prop := fun x y H Q => ∃ i j, x = .int i ∧ y = .int j ∧ Q (.int (i + j)) H
theorem in_add : InOp X .Add rAdd := by
  rintro pins s σ H x y u v Q I rx ry ⟨i, j, rfl, rfl, q⟩
  obtain ⟨t, rfl⟩ := (show ∃ t, u = Value.int i t from rx)
  obtain ⟨t', rfl⟩ := (show ∃ t', v = Value.int j t' from ry)
  exact PyProof.Rows.iadd_int ⟨.int (i + j), H, I.tok _, ⟨_, rfl⟩, q⟩
end

/-! ### isinstance -/
section
variable {X : Cx} {pins : List (Addr × Obj)} {σ : St} {H : Hp} {s : Shared} {A : Around} {E : Value → Shared → Prop} {Q : Value → Shared → Prop} {c : Value} {b : Bool}
end
end L2

namespace L2
open PySem PySem.Spec PyProof.Rows

/-! ### room -/
structure Room (k : Nat) (A : Around) : Prop where
  hd : A.handled = none
  dp : A.depth + 3 * k + 5 < recursionLimit
  un : A.units + 16 * k + 200 < cLine
theorem Room.mono {j k : Nat} {A : Around} (r : Room k A) (h : j ≤ k) : Room j A := ⟨r.hd, by have := r.dp; omega, by have := r.un; omega⟩
theorem Room.deeper {k : Nat} {A : Around} (r : Room (k + 1) A) (env : Env) : Room k (A.deeper env) :=
  ⟨r.hd, by have := r.dp; show A.depth + 1 + 3 * k + 5 < _; omega, by have := r.un; show A.units + 3 + 16 * k + 200 < _; omega⟩
theorem make_depth {A : Around} {C : Addr} {us : List Value} {kw : List (Str × Value)} : (A.under (.builtin "type.__call__" ⟨.ref C :: us, kw⟩)).depth = A.depth + 1 := by
  first | rfl | simp [Around.under, Code.weight, Code.isCreation, Code.isGuard, Code.isCaller, Code.frames, Code.isFrame, guardIds]
theorem make_units {A : Around} {C : Addr} {us : List Value} {kw : List (Str × Value)} : (A.under (.builtin "type.__call__" ⟨.ref C :: us, kw⟩)).units = A.units + 1 := by
  first | rfl | simp [Around.under, Code.cUnits, Code.frames, Code.isFrame]
theorem Room.make {k : Nat} {A : Around} (r : Room (k + 1) A) (C : Addr) (us : List Value) (kw : List (Str × Value)) : Room k (A.under (.builtin "type.__call__" ⟨.ref C :: us, kw⟩)) :=
  ⟨r.hd, by have := r.dp; rw [make_depth]; omega, by have := r.un; rw [make_units]; omega⟩
theorem Room.depth {k : Nat} {A : Around} (r : Room k A) : A.depth < recursionLimit := by have := r.dp; omega
theorem Room.units {k : Nat} {A : Around} (r : Room k A) : A.units + 64 < cLine := by have := r.un; omega
/-! ### argument lists and displays -/
def tNil : TA := fun _ H Q => Q [] H
def tCons (ta : TE) (tr : TA) : TA := fun σ H Q => ta σ H fun x H1 => tr σ H1 fun xs H2 => Q (x :: xs) H2
section
variable {X : Cx} {e : Expr} {es : List Expr} {te : TE} {t : TA} {pos : Pos}
theorem pa_nil : PA X [] tNil := fun _ _ _ _ H Q I h => Calls.spliced_nil ⟨[], H, I, .nil, h⟩
theorem pa_cons (ha : PE X e te) (hr : PA X es t) (hs : starEach (e :: es) X.env = (false, eval e X.env) :: starEach es X.env := by rfl) : PA X (e :: es) (tCons te t) := by
  intro pos pins s σ H Q I h
  rw [hs]
  show wpAny _ _ (spliced ((false, eval e X.env) :: backTo pos (starEach es X.env))) _ _ s
  refine Calls.spliced_cons (thn (ha pins s σ H _ I h) fun u s1 ⟨x, H1, I1, r1, q1⟩ => ?_)
  exact thn (hr pos pins s1 σ H1 _ I1 q1) fun us s2 ⟨xs, H2, I2, r2, q2⟩ => ⟨x :: xs, H2, I2, .cons r1 r2, q2⟩

/-- a tuple, a list of written items -/
def tTup (t : TA) : TE := fun σ H Q => t σ H fun xs H1 => xs.length ≤ sizeLine ∧ ∀ p, H1 p = none → Q (.ref p) (upd H1 p (.tup xs))
def tLst (t : TA) : TE := fun σ H Q => t σ H fun xs H1 => xs.length ≤ sizeLine ∧ ∀ p, H1 p = none → Q (.ref p) (upd H1 p (.lst xs))
theorem pe_tup {x1} (h : PA X es t) : PE X (.Tuple es x1 pos) (tTup t) := by
  intro pins s σ H Q I hq
  refine wpAny_Tuple_spliced (thn (h pos pins s σ H _ I hq) fun us s1 ⟨xs, H1, I1, r, z, q⟩ => ⟨by rw [← r.length]; exact z, ?_⟩)
  have hf : H1 s1.heap.objs.size = none := I1.hok.fresh (Nat.le_refl _)
  refine ⟨.ref s1.heap.objs.size, upd H1 s1.heap.objs.size (.tup xs), I1.laid (t' := s1.toks) (fun b u e => Heap.get?_push_of_some _ e) (Nat.le_refl _) ?_, rfl, q _ hf⟩
  exact ⟨z, us, r, ⟨_, Heap.get?_push_size _ rfl, rfl, _, rfl⟩⟩
theorem pe_lst (h : PA X es t) : PE X (.List es pos) (tLst t) := by
  intro pins s σ H Q I hq
  refine wpAny_List_spliced (thn (h pos pins s σ H _ I hq) fun us s1 ⟨xs, H1, I1, r, z, q⟩ => ⟨by rw [← r.length]; exact z, ?_⟩)
  have hf : H1 s1.heap.objs.size = none := I1.hok.fresh (Nat.le_refl _)
  refine ⟨.ref s1.heap.objs.size, upd H1 s1.heap.objs.size (.lst xs), I1.laid (t' := s1.toks) (fun b u e => Heap.get?_push_of_some _ e) (Nat.le_refl _) ?_, rfl, q _ hf⟩
  exact ⟨z, us, 0, r, Heap.get?_push_size _ rfl⟩
end

/-! ### what a def promises -/
/-- a def's promise: the bound arguments in the parameters' order, the heap, the wanted end, the wanted exception -/
abbrev Sp := List V → Hp → VK → XK → Prop
/-- how an exception lies behind a call (file 08 gives it): the callers' frames, abstract heap and state ahead of the call, the wish, the exception, the state -/
abbrev CXT := List Env → Hp → Shared → XK → Value → Shared → Prop

/-- the state at a call -/
structure Env0 (P : Program) (w : World) (K : PySem.W.Frag) (mg : Str → Option Value) (base : Heap) (A : Around) (outer : List Env) (s : Shared) (H : Hp) : Prop where
  frames : A.frames = some outer
  mod : Mod K mg base
  bs : ∀ b o, base.get? b = some o → s.heap.get? b = some o ∧ H b = none
  bsz : base.objs.size ≤ s.heap.objs.size
  funs : s.heap.FunFrames base outer
  frf : ∀ b ∈ frs outer, H b = none
  hok : HOk P w H s.heap
  bare : AllBare s.gens
/-- a call's end -/
def CE (outer : List Env) (P : Program) (w : World) (H : Hp) (s : Shared) (Q : VK) (u : Value) (s' : Shared) : Prop :=
  ∃ v H', s'.os = s.os ∧ AllBare s'.gens ∧ Un (frs outer) [] H H' s.heap s'.heap ∧ HOk P w H' s'.heap ∧ RelV v u ∧ Q v H'
def CR (CX : CXT) (outer : List Env) (P : Program) (w : World) (H : Hp) (s : Shared) (Q : VK) (E : XK) (r : Result) (s' : Shared) : Prop :=
  match r with
  | .ok (.ret u) => CE outer P w H s Q u s'
  | .ok _ => False
  | .error e => CX outer H s E e s'
structure FnOk (P : Program) (w : World) (K : PySem.W.Frag) (mg : Str → Option Value) (base : Heap) (CX : CXT) (k : Nat) (f : Addr) (fd : FuncData) (ps : List Str) (sp : Sp) : Prop where
  len : ∀ vs H Q E, sp vs H Q E → vs.length = ps.length
  run : ∀ (A : Around) (outer : List Env) (s : Shared) (H : Hp) (args : Args) (us : List Value) (vs : List V) (Q : VK) (E : XK), Room k A → Env0 P w K mg base A outer s H → BindsTo s fd args (ps.zip us) → Vals vs us → sp vs H Q E →
    codeAny (model P w) A (.call (.ref f) args) (CR CX outer P w H s Q E) s
theorem Env0.make {P : Program} {w : World} {K : PySem.W.Frag} {mg : Str → Option Value} {base : Heap} {A : Around} {outer : List Env} {s : Shared} {H : Hp} (e : Env0 P w K mg base A outer s H) (C : Addr) (us : List Value) (kw : List (Str × Value)) :
    Env0 P w K mg base (A.under (.builtin "type.__call__" ⟨.ref C :: us, kw⟩)) outer s H := ⟨by first | exact e.frames | (simpa [Around.under, Code.envs, Code.isFrame, pushEnvs] using e.frames), e.mod, e.bs, e.bsz, e.funs, e.frf, e.hok, e.bare⟩
section
variable {X : Cx} {pins : List (Addr × Obj)} {σ : St} {H : Hp} {s s' : Shared}
/-- from a body: what a callee wants -/
theorem Inv.env0 (I : Inv X pins σ H s) : Env0 X.prog X.w X.K X.mg X.base X.A X.stack s H :=
  ⟨I.ok.frames, I.ok.mod, I.bs, Nat.le_trans I.ok.bsz I.sz, I.stack, I.stkFree, I.hok, I.bare⟩
/-- behind a call -/
theorem Inv.after {Q : VK} {u : Value} (I : Inv X pins σ H s) (h : CE X.stack X.prog X.w H s Q u s') : EP X pins σ Q u s' := by
  obtain ⟨v, H', os, bare, un, hok, r, q⟩ := h
  obtain ⟨hh, g, d, t, os'⟩ := s'
  obtain rfl : os' = s.os := os
  exact ⟨v, H', I.call (h' := hh) (g' := g) (d' := d) (t' := t) (ch := []) un hok bare (fun b z => absurd z (by simp)), r, q⟩
end

/-! ### calls -/
/-- f(..): the written arguments, then the defaults dvs; E: what is wanted of an exception -/
def tCall (sp : Sp) (dvs : List V) (E : XK) (t : TA) : TE := fun σ H Q => t σ H fun vs H1 => sp (vs ++ dvs) H1 Q E
/-- C(..): a new instance and its dict, then __init__ -/
def tMake (C : Addr) (sp : Sp) (dvs : List V) (E : XK) (t : TA) : TE := fun σ H Q => t σ H fun vs H1 => ∀ x dx, H1 x = none → H1 dx = none → dx ≠ x →
  sp (.ref x :: (vs ++ dvs)) (upd (upd H1 dx (.own x)) x (.ins C dx [])) (fun v H2 => v = .non ∧ Q (.ref x) H2) E

/-- how the parameters are bound: us the positional arguments, kw the keywords' values by name, ds the defaults that fill up -/
def Binds (K : PySem.W.Frag) (fd : FuncData) (ps : List Str) (ds : List Value) : Prop :=
  ∀ (s : Shared) (us : List Value), K.In s.heap → (us ++ ds).length = ps.length → BindsTo s fd ⟨us, []⟩ (ps.zip (us ++ ds))
/-- every parameter is given -/
theorem Binds.all {K : PySem.W.Frag} {fd : FuncData} {ps : List Str} (h : ∀ us : List Value, us.length = ps.length → bindArgs fd ⟨us, []⟩ = pure (ps.zip us)) : Binds K fd ps [] := fun s us _ hl => by
  rw [List.append_nil] at hl ⊢
  exact .of_eq (h us hl)

/-- an exception of a callee reaches what this body wants of exceptions -/
def Passes (CX : CXT) (X : Cx) (E : XK) : Prop := ∀ (pins : List (Addr × Obj)) (σ : St) (H : Hp) (s : Shared) (e : Value) (s' : Shared), Inv X pins σ H s → CX X.stack H s E e s' → X.xe e s'

section
variable {X : Cx} {CX : CXT} {k : Nat} {f C : Addr} {fd : FuncData} {ps : List Str} {sp : Sp} {dvs : List V} {ds : List Value} {E : XK} {x m : Str} {p pos apos : Pos} {e o : Expr} {es : List Expr} {ta : TE} {t : TA}

/-- the callee runs -/
theorem run_fn {pins : List (Addr × Obj)} {σ : St} {H : Hp} {s : Shared} {Q : VK} {us : List Value} {vs : List V} (F : FnOk X.prog X.w X.K X.mg X.base CX k f fd ps sp) (hr : Room k X.A) (hb : Binds X.K fd ps ds) (hd : Vals dvs ds) (hx : Passes CX X E)
    (I : Inv X pins σ H s) (r : Vals vs us) (h : sp (vs ++ dvs) H Q E) : wpAny (model X.prog X.w) X.A (call (.ref f) us) (EP X pins σ Q) X.xe s := by
  have r2 : Vals (vs ++ dvs) (us ++ ds) := r.append hd
  have hl : (us ++ ds).length = ps.length := by rw [← r2.length]; exact F.len _ _ _ _ h
  refine wpAny_call (codeAny_mono (F.run X.A X.stack s H ⟨us, []⟩ (us ++ ds) (vs ++ dvs) Q E hr I.env0 (hb s us I.kIn hl) r2 h) fun r s' hq => ?_)
  cases r with
  | error e => exact hx pins σ H s e s' I hq
  | ok fl =>
    cases fl with
    | ret u => exact I.after hq
    | next => exact False.elim hq
    | brk => exact False.elim hq
    | cont => exact False.elim hq

theorem pe_call (F : FnOk X.prog X.w X.K X.mg X.base CX k f fd ps sp) (hr : Room k X.A) (hg : Gl X x) (hm : X.mg x = some (.ref f)) (hk : PySem.W.keepIn X.K (.ref f) = true) (hb : Binds X.K fd ps ds) (hd : Vals dvs ds) (hx : Passes CX X E)
    (ha : PA X (e :: es) t) (hdb : (x == ("__debug__" : Str)) = false := by decide) (he : starEach (e :: es) X.env = (false, eval e X.env) :: starEach es X.env := by rfl) (hpl : (backTo pos (starEach es X.env)).any (·.1) = false := by rfl) :
    PE X (.Call (.Name x p) (e :: es) [] pos) (tCall sp dvs E t) := by
  intro pins s σ H Q I h
  refine wpAny_Call_Name_kw (ld_glob I hg hm ?_ hdb)
  refine PySem.W.callWith_K (h₀ := X.base) I.ok.mod.kin hk (thn (ha pos pins s σ H _ I h) fun us s1 ⟨vs, H1, I1, r, q⟩ => ⟨I1.kIn, ?_⟩) he hpl
  exact run_fn F hr hb hd hx I1 r q
/-- what a class must have to be made -/
structure Mk (K : PySem.W.Frag) (C f : Addr) : Prop where
  makes : PySem.W.makesIn K C = true
  init : PySem.W.findIn K (.ref C) "__init__" = some (some (.ref f))
  fn : PySem.W.isFn K (.ref f) = true
  kp : PySem.W.keepIn K (.ref C) = true

theorem run_make {pins : List (Addr × Obj)} {σ : St} {H : Hp} {s : Shared} {Q : VK} {us : List Value} {vs : List V} (M : Mk X.K C f) (F : FnOk X.prog X.w X.K X.mg X.base CX k f fd ps sp) (hr : Room (k + 1) X.A) (hb : Binds X.K fd ps ds) (hd : Vals dvs ds)
    (hx : Passes CX X E) (I : Inv X pins σ H s) (r : Vals vs us)
    (h : ∀ x dx, H x = none → H dx = none → dx ≠ x → sp (.ref x :: (vs ++ dvs)) (upd (upd H dx (.own x)) x (.ins C dx [])) (fun v H2 => v = .non ∧ Q (.ref x) H2) E) :
    wpAny (model X.prog X.w) X.A (call (.ref C) us) (EP X pins σ Q) X.xe s := by
  have hq := h (s.heap.objs.size + 1) s.heap.objs.size (I.hok.fresh (Nat.le_succ _)) (I.hok.fresh (Nat.le_refl _)) (Nat.ne_of_lt (Nat.lt_succ_self _))
  have I2 := Inv.made (C := C) I
  have r2 : Vals (V.ref (s.heap.objs.size + 1) :: (vs ++ dvs)) (Value.ref (s.heap.objs.size + 1) :: (us ++ ds)) := .cons rfl (r.append hd)
  have hl : (Value.ref (s.heap.objs.size + 1) :: us ++ ds).length = ps.length := by
    have e := r2.length
    rw [F.len _ _ _ _ hq] at e
    exact e.symm
  refine wpAny_call (make_map (f := f) I.kIn M.makes M.init (beq_iff_eq.mp M.fn) (codeAny_mono (F.run _ X.stack _ _ ⟨Value.ref (s.heap.objs.size + 1) :: us, []⟩ (Value.ref (s.heap.objs.size + 1) :: (us ++ ds)) _ _ E (hr.make C us [])
    (I2.env0.make C us []) (hb _ (Value.ref (s.heap.objs.size + 1) :: us) I2.kIn hl) r2 hq) fun r s' hq' => ?_))
  cases r with
  | error e => exact hx pins σ _ _ e s' I2 hq'
  | ok fl =>
    cases fl with
    | ret u =>
      obtain ⟨v, H', I3, rv, ev, q3⟩ := I2.after hq'
      subst ev
      exact ⟨rv, ⟨V.ref (s.heap.objs.size + 1), H', I3, rfl, q3⟩⟩
    | next => exact False.elim hq'
    | brk => exact False.elim hq'
    | cont => exact False.elim hq'
theorem pe_make (M : Mk X.K C f) (F : FnOk X.prog X.w X.K X.mg X.base CX k f fd ps sp) (hr : Room (k + 1) X.A) (hg : Gl X x) (hm : X.mg x = some (.ref C)) (hb : Binds X.K fd ps ds) (hd : Vals dvs ds) (hx : Passes CX X E)
    (ha : PA X (e :: es) t) (hdb : (x == ("__debug__" : Str)) = false := by decide) (he : starEach (e :: es) X.env = (false, eval e X.env) :: starEach es X.env := by rfl) (hpl : (backTo pos (starEach es X.env)).any (·.1) = false := by rfl) :
    PE X (.Call (.Name x p) (e :: es) [] pos) (tMake C sp dvs E t) := by
  intro pins s σ H Q I h
  refine wpAny_Call_Name_kw (ld_glob I hg hm ?_ hdb)
  refine PySem.W.callWith_K (h₀ := X.base) I.ok.mod.kin M.kp (thn (ha pos pins s σ H _ I h) fun us s1 ⟨vs, H1, I1, r, q⟩ => ⟨I1.kIn, ?_⟩) he hpl
  exact run_make M F hr hb hd hx I1 r q
end

/-! ### keywords -/
section
variable {X : Cx} {CX : CXT} {k : Nat} {f C : Addr} {fd : FuncData} {ps ks : List Str} {sp : Sp} {E : XK} {x m : Str} {p pos apos kpos : Pos} {e o : Expr} {es : List Expr} {kws : List Keyword} {te ta : TE} {t tk : TA} {nm : Option Str}
variable {g : List Value → List Value → List Value} {gV : List V → List V → List V}
end

/-! ### a def's body keeps its promise -/
/-- names: the parameters first -/
structure FnScope (N P : List Str) (sc : Scope) : Prop where
  kind : sc.kind = .function
  co : sc.isCoroutine = false
  gen : sc.isGenerator = false
  nd : N.Nodup
  pre : N.take P.length = P
  par : ∀ x ∈ P, sc.names.lookup x = some .local ∨ sc.names.lookup x = some .cell
  nofree : ∀ y ∈ sc.names, y.2 ≠ .free

theorem bindL_out {kindOf : Str → Option NameKind} {x : Str} : ∀ {binds : List (Str × Value)} {m : Str → Option Value}, (∀ v, (x, v) ∉ binds) → bindL kindOf binds m x = m x
  | [], _, _ => rfl
  | (n, v) :: r, m, h => by
    unfold bindL
    rw [bindL_out fun w hw => h w (List.mem_cons_of_mem _ hw)]
    split
    · have : x ≠ n := by rintro rfl; exact h v List.mem_cons_self
      simp [this]
    · rfl
theorem bindC_out {kindOf : Str → Option NameKind} {x : Str} : ∀ {binds : List (Str × Value)} {m : Str → Option Value}, (∀ v, (x, v) ∉ binds) → bindC kindOf binds m x = m x
  | [], _, _ => rfl
  | (n, v) :: r, m, h => by
    unfold bindC
    rw [bindC_out fun w hw => h w (List.mem_cons_of_mem _ hw)]
    split
    · rfl
    · have : x ≠ n := by rintro rfl; exact h v List.mem_cons_self
      simp [this]
theorem bindL_get {kindOf : Str → Option NameKind} {x : Str} {v : Value} : ∀ {P : List Str} {vs : List Value} {i : Nat} {m : Str → Option Value}, P.Nodup → P[i]? = some x → vs[i]? = some v → kindOf x = some .local →
    bindL kindOf (P.zip vs) m x = some v
  | [], _, _, _, _, h, _, _ => by simp at h
  | _ :: _, [], _, _, _, _, h, _ => by simp at h
  | p :: P, w :: vs, 0, m, nd, h1, h2, hk => by
    simp at h1 h2; subst h1; subst h2
    show bindL kindOf ((p, w) :: P.zip vs) m p = _
    unfold bindL
    rw [bindL_out fun v hv => (List.nodup_cons.mp nd).1 (List.of_mem_zip hv).1, if_pos hk]
    simp
  | p :: P, w :: vs, i + 1, m, nd, h1, h2, hk => by
    show bindL kindOf ((p, w) :: P.zip vs) m x = _
    unfold bindL
    exact bindL_get (i := i) (List.nodup_cons.mp nd).2 (by simpa using h1) (by simpa using h2) hk
theorem bindC_get {kindOf : Str → Option NameKind} {x : Str} {v : Value} : ∀ {P : List Str} {vs : List Value} {i : Nat} {m : Str → Option Value}, P.Nodup → P[i]? = some x → vs[i]? = some v → kindOf x ≠ some .local →
    bindC kindOf (P.zip vs) m x = some v
  | [], _, _, _, _, h, _, _ => by simp at h
  | _ :: _, [], _, _, _, _, h, _ => by simp at h
  | p :: P, w :: vs, 0, m, nd, h1, h2, hk => by
    simp at h1 h2; subst h1; subst h2
    show bindC kindOf ((p, w) :: P.zip vs) m p = _
    unfold bindC
    rw [bindC_out fun v hv => (List.nodup_cons.mp nd).1 (List.of_mem_zip hv).1, if_neg hk]
    simp
  | p :: P, w :: vs, i + 1, m, nd, h1, h2, hk => by
    show bindC kindOf ((p, w) :: P.zip vs) m x = _
    unfold bindC
    exact bindC_get (i := i) (List.nodup_cons.mp nd).2 (by simpa using h1) (by simpa using h2) hk

/-- the names' values at the entry -/
def start (N : List Str) (vs : List V) : St := vs.map some ++ List.replicate (N.length - vs.length) none

/-- the context of a def's body, at its entry; an exception leaves the frame, then lies as CX says -/
def cxOf (CX : CXT) (P : Program) (w : World) (K : PySem.W.Frag) (mg : Str → Option Value) (base : Heap) (N : List Str) (qual : Str) (scope : Scope) (f : Addr) (cd : Value) (A : Around) (outer : List Env) (s : Shared) (H : Hp) (E : XK) : Cx where
  prog := P
  w := w
  K := K
  mg := mg
  base := base
  A := A.deeper (envOfC qual scope s.heap.objs.size f cd)
  N := N
  s_0 := s
  H_0 := H
  env := envOfC qual scope s.heap.objs.size f cd
  outer := outer
  stack := envOfC qual scope s.heap.objs.size f cd :: outer
  ex := []
  calm := true
  fn := fun _ => true
  pn := []
  xe := fun e s' => wpAny (model P w) (A.deeper (envOfC qual scope s.heap.objs.size f cd)) (leaving (envOfC qual scope s.heap.objs.size f cd) e) (fun _ s'' => CX outer H s E e s'') (fun e' s'' => CX outer H s E e' s'') s'

theorem cell_has {sc : Scope} {n : Nat} {x : Str} (h : sc.names.lookup x = some .cell) : ∃ c, (cellsFrom n sc.names []).lookup x = some c := by
  have q := PySem.W.cellsFrom_some sc.names n [] (.inl h)
  exact Option.isSome_iff_exists.mp q

theorem inv_start {CX : CXT} {P : Program} {w : World} {K : PySem.W.Frag} {mg : Str → Option Value} {base : Heap} {N ps : List Str} {qual : Str} {scope : Scope} {f : Addr} {cd : Value} {A : Around} {outer : List Env} {s s1 : Shared} {H : Hp} {E : XK} {us : List Value} {vs : List V}
    (S : FnScope N ps scope) (hd : A.handled = none) (e0 : Env0 P w K mg base A outer s H) (hl : vs.length = ps.length) (r : Vals vs us)
    (x : InCallC s s.heap.objs.size (bindL (envOfC qual scope s.heap.objs.size f cd).kindOf (ps.zip us) fun _ => none) (cellsFrom (s.heap.objs.size + 1) scope.names []) (bindC (envOfC qual scope s.heap.objs.size f cd).kindOf (ps.zip us) fun _ => none) s1) :
    Inv (cxOf CX P w K mg base N qual scope f cd A outer s H E) [] (start N vs) H s1 := by
  have hpl : ps.length ≤ N.length := by have := congrArg List.length S.pre; rw [List.length_take] at this; omega
  obtain ⟨h1, tk, rfl, hk⟩ := x.done
  have noA : ∀ b : Addr, b ∉ (cxOf CX P w K mg base N qual scope f cd A outer s H E).ex := fun b z => absurd (show b ∈ ([] : List Addr) from z) (by simp)
  refine ⟨⟨e0.mod, S.kind, rfl, rfl, Nat.le_refl _, fun y z c h1 h2 => ?_, fun y hy => ?_, fun y c _ h => ?_, fun _ => hd, Around.frames_deeper e0.frames, .inr ⟨rfl, rfl⟩, fun b z => absurd z (noA b), e0.bs, e0.bsz, fun b _ _ => noA b, fun b z => absurd z (noA b), e0.funs, e0.frf⟩,
    rfl, e0.bare, Un.kept hk, ⟨_, x.toInCall.ns, fun i y v h1 h2 h3 => ?_⟩, fun y c h => ⟨_, x.cell y c h⟩, e0.hok.fresh (Nat.le_refl _), fun y c h => ?_, fun p hp => absurd (show p ∈ ([] : List (Addr × Obj)) from hp) (by simp), e0.hok.kept hk, ?_⟩
  · exact name_of_addr x.apart (PySem.mem_of_lookup h1) (PySem.mem_of_lookup h2)
  · have hy : scope.names.lookup y = some .cell ∨ scope.names.lookup y = some .free := hy
    rcases hy with hy | hy
    · exact cell_has hy
    · exact absurd rfl (S.nofree _ (PySem.mem_of_lookup hy))
  · exact Nat.le_of_lt (x.above y c (PySem.mem_of_lookup h))
  · have hi : i < vs.length := by
      unfold start at h2
      by_cases hi : i < vs.length
      · exact hi
      · rw [List.getElem?_append_right (by simpa using hi)] at h2
        rw [List.getElem?_replicate] at h2
        split at h2 <;> cases h2
    have ha : vs[i]? = some v := by
      unfold start at h2
      rw [List.getElem?_append_left (by simpa using hi), List.getElem?_map] at h2
      cases e : vs[i]? with
      | none => rw [e] at h2; cases h2
      | some a => rw [e] at h2; cases h2; rfl
    obtain ⟨u, hu, rv⟩ := r.get ha
    have hp : ps[i]? = some y := by
      rw [← S.pre, List.getElem?_take_of_lt (by omega)]; exact h1
    have ndP : ps.Nodup := by rw [← S.pre]; exact S.nd.sublist (List.take_sublist _ _)
    refine ⟨u, rv, ?_⟩
    rcases S.par y (List.mem_of_getElem? hp) with k | k
    · exact .inl ⟨k, bindL_get ndP hp hu k⟩
    · obtain ⟨c, e⟩ := cell_has (n := s.heap.objs.size + 1) k
      refine .inr ⟨.inl k, c, e, ?_⟩
      have q := x.cell y c e
      rw [bindC_get ndP hp hu (by show scope.names.lookup y ≠ _; rw [k]; decide)] at q
      exact q
  · exact e0.hok.fresh (Nat.le_of_lt (x.above y c (PySem.mem_of_lookup h)))
  · unfold start
    show _ = N.length
    rw [List.length_append, List.length_map, List.length_replicate]
    omega

/-- THE RULE: a def (or a method) of the text, by its body. The body's reading t is chosen for each entry; it is run at the parameters' values -/
theorem fn_of {CX : CXT} {P : Program} {w : World} {K : PySem.W.Frag} {mg : Str → Option Value} {base : Heap} {k : Nat} {f : Addr} {name qual : Str} {params : Arguments} {body : List Stmt} {scope : Scope} {dV kV doc pm cdv ct oc : Value} {an od : Option Addr}
    {osl : Array (Option Value)} {N ps : List Str} {sp : Sp} (lk : K.lookup f = some ⟨oc, od, .func (PySem.W.fnOf name qual params body scope dV kV doc pm an cdv ct), osl⟩) (hcd : PySem.W.codeIn K cdv qual = true) (S : FnScope N ps scope)
    (len : ∀ vs H Q E, sp vs H Q E → vs.length = ps.length)
    (hbody : ∀ (A : Around) (outer : List Env) (s : Shared) (H : Hp) (vs : List V) (Q : VK) (E : XK), Room k (A.deeper (envOfC qual scope s.heap.objs.size f cdv)) → sp vs H Q E →
      ∃ t, PSs (cxOf CX P w K mg base N qual scope f cdv A outer s H E) body t ∧ t { nx := fun _ H' => Q .non H', rt := Q } (start N vs) H) :
    FnOk P w K mg base CX (k + 1) f (PySem.W.fnOf name qual params body scope dV kV doc pm an cdv ct) ps sp := by
  refine ⟨len, fun A outer s H args us vs Q E hr e0 hb r hsp => ?_⟩
  have hl := len _ _ _ _ hsp
  have KX : K.In s.heap := e0.mod.kin.keeps fun b o e => (e0.bs b o e).1
  have lim : s.heap.NoLimit := e0.mod.nolimit.keeps fun b o e => (e0.bs b o e).1
  have hkind : ∀ y ∈ ps.zip us, scope.names.lookup y.1 = some .local ∨ (scope.names.lookup y.1 = some .cell ∧ ((cellsFrom (s.heap.objs.size + 1) scope.names []).lookup y.1).isSome = true) := fun ⟨n, v⟩ hy => by
    rcases S.par n (List.of_mem_zip hy).1 with q | q
    · exact .inl q
    · exact .inr ⟨q, PySem.W.cellsFrom_some _ _ _ (.inl q)⟩
  refine codeAny_call_function hr.depth (KX _ _ lk) rfl S.co S.gen rfl (PySem.W.codeRec_of KX hcd) (hb _ _ _ _ ?_)
  refine wpAny_newFunctionEnv_cells S.kind hkind fun env he s1 x => ?_
  subst he
  refine ⟨lim.keeps x.toInCall.keep, codeAny_func ?_⟩
  obtain ⟨t, ht, hq⟩ := hbody A outer s H vs Q E (hr.deeper _) hsp
  have I : Inv (cxOf CX P w K mg base N qual scope f cdv A outer s H E) [] (start N vs) H s1 := inv_start S hr.hd e0 hl r x
  refine wpAny_mono (ht [] s1 (start N vs) H _ I hq) (fun fl s' hs => ?_) fun e s' hs => hs
  have fin : ∀ {σ' : St} {H' : Hp} {v : V} {u : Value}, Inv (cxOf CX P w K mg base N qual scope f cdv A outer s H E) [] σ' H' s' → RelV v u → Q v H' → CE outer P w H s Q u s' :=
    fun {σ' H' v u} J rv q => ⟨v, H', J.os, J.bare, J.base, J.hok, rv, q⟩
  cases fl with
  | ret u =>
    obtain ⟨v, σ', H', J, rv, q⟩ := hs
    exact fin J rv q
  | next =>
    obtain ⟨σ', H', J, q⟩ := hs
    exact fin (v := V.non) (u := Value.none) J rfl q
  | brk =>
    obtain ⟨_, _, _, q⟩ := hs
    exact False.elim q
  | cont =>
    obtain ⟨_, _, _, q⟩ := hs
    exact False.elim q
end L2

namespace L2
open PySem PySem.Spec PyProof.Rows
section
variable {X : Cx} {x : Str} {p pos : Pos} {e : Expr} {es : List Expr} {t : TA} {id T : String} {r : List V → Hp → VK → Prop}

def tCB (r : List V → Hp → VK → Prop) (t : TA) : TE := fun σ H Q => t σ H fun vs H1 => r vs H1 Q
/-- f(e, ..), f a built-in function -/
theorem pe_callB (hc : CallR X (.builtin id) r) (hg : Gl X x) (hm : X.mg x = none) (hv : bootBuiltins x = some (.builtin id)) (ha : PA X (e :: es) t) (hn : x ≠ "__name__" := by decide) (hdb : (x == ("__debug__" : Str)) = false := by decide)
    (he : starEach (e :: es) X.env = (false, eval e X.env) :: starEach es X.env := by rfl) (hpl : (backTo pos (starEach es X.env)).any (·.1) = false := by rfl) : PE X (.Call (.Name x p) (e :: es) [] pos) (tCB r t) := by
  intro pins s σ H Q I h
  refine wpAny_Call_Name_kw (ld_blt I hg hm hv ?_ hn hdb)
  exact PyProof.Rows.callWith_builtin1 (thn (ha pos pins s σ H _ I h) fun us s1 ⟨vs, H1, I1, r1, q1⟩ => hc pins s1 σ H1 vs us Q I1 r1 q1) he hpl
/-- T(e, ..), T a built-in type -/
theorem pe_callTy (hc : CallR X (.type T) r) (hg : Gl X x) (hm : X.mg x = none) (hv : bootBuiltins x = some (.type T)) (ha : PA X (e :: es) t) (hn : x ≠ "__name__" := by decide) (hdb : (x == ("__debug__" : Str)) = false := by decide)
    (he : starEach (e :: es) X.env = (false, eval e X.env) :: starEach es X.env := by rfl) (hpl : (backTo pos (starEach es X.env)).any (·.1) = false := by rfl) : PE X (.Call (.Name x p) (e :: es) [] pos) (tCB r t) := by
  intro pins s σ H Q I h
  refine wpAny_Call_Name_kw (ld_blt I hg hm hv ?_ hn hdb)
  exact PyProof.Rows.callWith_type1 (thn (ha pos pins s σ H _ I h) fun us s1 ⟨vs, H1, I1, r1, q1⟩ => hc pins s1 σ H1 vs us Q I1 r1 q1) he hpl
end
end L2

namespace HT
open PySem PyProof.Rows

section
open PySem.SeqAt
open PySem.AutoSeq1 (wpAny_loadPart')
open PySem.MeetsSeq PySem.MeetsSeq2 PySem.MeetsSeq3

end

section
variable {prog : Program} {w : World} {A : Around} {E : Value → Shared → Prop} {s : Shared}

/-! ### t[a:b], not the whole -/
/-- a slice's bound as a place among n (d where it is left out) -/
def sIx (n d : Nat) : Option Int → Nat
  | none => d
  | some v => if v < 0 then (v + (n : Int)).toNat else min v.toNat n
theorem sIx_nat (n d k : Nat) : sIx n d (some (k : Int)) = min k n := by
  show (if (k : Int) < 0 then ((k : Int) + (n : Int)).toNat else min (k : Int).toNat n) = min k n
  rw [if_neg (by omega), Int.toNat_natCast]
end
end HT

namespace L2
open PySem PySem.Spec PyProof.Rows

/-! ### the parts of a slice -/
abbrev TO := St → Hp → (Option Int → Hp → Prop) → Prop
/-- a slice's part (left out, or an int) -/
def PO (X : Cx) (e : Option Expr) (t : TO) : Prop :=
  ∀ (pins : List (Addr × Obj)) (s : Shared) (σ : St) (H : Hp) (Q : Option Int → Hp → Prop), Inv X pins σ H s → t σ H Q →
    wpAny (model X.prog X.w) X.A (evalPart e X.env) (fun u s' => ∃ o H', Inv X pins σ H' s' ∧ IsPart u o ∧ Q o H') X.xe s
def tPart (t : TE) : TO := fun σ H Q => t σ H fun x H1 => ∃ i, x = .int i ∧ Q (some i) H1

section
variable {X : Cx} {e : Expr} {te : TE} {lo hi : Option Expr} {tl th : TO} {pos p2 : Pos}

theorem po_some (h : PE X e te) : PO X (some e) (tPart te) := by
  intro pins s σ H Q I hw
  rw [evalPart_some]
  refine thn (h pins s σ H _ I hw) fun u s1 ⟨x, H1, I1, r1, q1⟩ => ?_
  obtain ⟨i, rfl, q⟩ := q1
  obtain ⟨t, rfl⟩ := r1
  exact ⟨some i, H1, I1, .int i t, q⟩

/-- what a slice of a value is, by values: the slice object stands at sl -/
def SlR (X : Cx) (r : V → Option Int → Option Int → Hp → VK → Prop) : Prop :=
  ∀ (pins : List (Addr × Obj)) (s : Shared) (σ : St) (H : Hp) (x : V) (v vl vu : Value) (lo hi : Option Int) (sl : Addr) (Q : VK), Inv X pins σ H s → RelV x v → s.heap.IsSliceOf sl vl vu .none → IsPart vl lo → IsPart vu hi → r x lo hi H Q →
    ∃ T id, typeLookup (.type T) "__getitem__" = pure (some (.builtin id)) ∧ s.TypeIs v T ∧ wpAny (model X.prog X.w) X.A (getItem v (.ref sl)) (EP X pins σ Q) X.xe s
def tSl (r : V → Option Int → Option Int → Hp → VK → Prop) (te : TE) (tl th : TO) : TE := fun σ H Q => te σ H fun x H1 => tl σ H1 fun l H2 => th σ H2 fun u H3 => r x l u H3 Q
/-- a[lo:hi], any a -/
theorem pe_slice {r : V → Option Int → Option Int → Hp → VK → Prop} (hr : SlR X r) (he : PE X e te) (hl : PO X lo tl) (hu : PO X hi th) : PE X (.Subscript e (.Slice lo hi none p2) pos) (tSl r te tl th) := by
  intro pins s σ H Q I h
  refine Subscript_ (thn (he pins s σ H _ I h) fun v s1 ⟨x, H1, I1, r1, q1⟩ => ?_)
  refine wpAny_Slice (thn (hl pins s1 σ H1 _ I1 q1) fun vl s2 ⟨l, H2, I2, pl, q2⟩ => thn (hu pins s2 σ H2 _ I2 q2) fun vu s3 ⟨u, H3, I3, pu, q3⟩ => ?_)
  rw [evalPart_none]
  refine wpAny_pure ?_
  have I4 : Inv X pins σ H3 { s3 with heap := s3.heap.push { cls := .type "slice", data := .fields #[vl, vu, .none] } } := I3.kept (t' := s3.toks) fun b ob q => Heap.get?_push_of_some _ q
  obtain ⟨T, id, hT, ht, hg⟩ := hr pins { s3 with heap := s3.heap.push { cls := .type "slice", data := .fields #[vl, vu, .none] } } σ H3 x v vl vu l u s3.heap.objs.size Q I4 r1 (Heap.IsSliceOf.new ..) pl pu q3
  show wpAny (model X.prog X.w) X.A (subscriptTail e (.Slice lo hi none p2) v (.ref s3.heap.objs.size)) (EP X pins σ Q) X.xe { s3 with heap := s3.heap.push { cls := .type "slice", data := .fields #[vl, vu, .none] } }
  exact tail_any (ops := [.ref s3.heap.objs.size, v]) ht hT hg (by with_unfolding_all rfl)

/-- the items of xs[lo:hi] -/
def cutV (xs : List V) (lo hi : Option Int) : List V := (xs.drop (HT.sIx xs.length 0 lo)).take (HT.sIx xs.length xs.length hi - HT.sIx xs.length 0 lo)
theorem cutV_length (xs : List V) (lo hi : Option Int) : (cutV xs lo hi).length ≤ xs.length := by
  unfold cutV
  rw [List.length_take, List.length_drop]
  omega
/-! ### t < u, t + u -/
end
end L2

namespace L2
open PySem PySem.Spec PyProof.Rows

/-! ### places -/
/-- the place that an index of any sign means -/
def ixN (n : Nat) (i : Int) : Option Nat := if 0 ≤ i then (if i < n then some i.toNat else none) else if -(n : Int) ≤ i then some (i + n).toNat else none
def atI {α : Type} (xs : List α) (i : Int) : Option α := (ixN xs.length i).bind fun j => xs[j]?
theorem ixN_seq {n : Nat} {i : Int} {j : Nat} (h : ixN n i = some j) : seqIndex? i n = some j ∧ j < n ∧ -(n : Int) ≤ i ∧ i < n := by
  unfold ixN at h
  by_cases h0 : 0 ≤ i
  · rw [if_pos h0] at h
    by_cases h1 : i < n
    · rw [if_pos h1] at h
      have e : i.toNat = j := Option.some.inj h
      exact ⟨by rw [seqIndex_of h0 h1, e], by omega, by omega, h1⟩
    · rw [if_neg h1] at h; cases h
  · rw [if_neg h0] at h
    by_cases h1 : -(n : Int) ≤ i
    · rw [if_pos h1] at h
      have e : (i + n).toNat = j := Option.some.inj h
      exact ⟨by rw [seqIndex_neg (by omega) h1, e], by omega, h1, by omega⟩
    · rw [if_neg h1] at h; cases h
theorem atI_get {α : Type} {xs : List α} {i : Int} {v : α} (h : atI xs i = some v) : ∃ j, seqIndex? i xs.length = some j ∧ xs[j]? = some v ∧ j < xs.length ∧ -(xs.length : Int) ≤ i ∧ i < xs.length := by
  unfold atI at h
  cases e : ixN xs.length i with
  | none => rw [e] at h; cases h
  | some j =>
    rw [e] at h
    obtain ⟨h1, h2, h3, h4⟩ := ixN_seq e
    exact ⟨j, h1, h, h2, h3, h4⟩
theorem atI_nat {α : Type} {xs : List α} {j : Nat} {v : α} (h : xs[j]? = some v) : atI xs (j : Int) = some v := by
  have hj : j < xs.length := (List.getElem?_eq_some_iff.mp h).1
  have e : ixN xs.length (j : Int) = some j := by
    unfold ixN
    rw [if_pos (by omega), if_pos (by omega)]; simp
  unfold atI; rw [e]; exact h
/-! ### what may be subscripted -/
/-- what stands as an index of a plain subscript -/
def PlainIx (b : Expr) : Prop := ∀ o i, subscripted b false o i = operate [o, i] (getItem o i)
/-- a subscript by values -/
def IxR (X : Cx) (r : R2) : Prop :=
  ∀ (value slice : Expr) (pins : List (Addr × Obj)) (s : Shared) (σ : St) (H : Hp) (x y : V) (v u : Value) (Q : VK), Inv X pins σ H s → RelV x v → RelV y u → r x y H Q →
    subscripted slice false v u = operate [v, u] (getItem v u) → wpAny (model X.prog X.w) X.A (subscriptTail value slice v u) (EP X pins σ Q) X.xe s
/-- a call of a builtin's method by values: the receiver, the arguments -/
def MtR (X : Cx) (id : String) (r : V → List V → Hp → VK → Prop) : Prop :=
  ∀ (pins : List (Addr × Obj)) (s : Shared) (σ : St) (H : Hp) (x : V) (xs : List V) (v : Value) (us : List Value) (Q : VK), Inv X pins σ H s → RelV x v → Vals xs us → r x xs H Q →
    wpAny (model X.prog X.w) X.A (call (.builtin id) (v :: us)) (EP X pins σ Q) X.xe s
section
variable {X : Cx} {a b : Expr} {ta tb : TE} {pos : Pos}
/-- a[b] -/
theorem pe_ix {r : R2} (hr : IxR X r) (ha : PE X a ta) (hb : PE X b tb) (hs : PlainIx b) : PE X (.Subscript a b pos) (tOp r ta tb) := by
  intro pins s σ H Q I h
  exact Subscript_ (binT ha hb I h fun v u s2 x y H2 I2 rx ry q => hr a b pins s2 σ H2 x y v u Q I2 rx ry q (hs _ _))

def rIxL (K : PySem.W.Frag) : R2 := fun x y H Q => ∃ p xs i v, x = .ref p ∧ y = .int i ∧ SqL K H p xs ∧ atI xs i = some v ∧ Q v H
def rIxT (K : PySem.W.Frag) : R2 := fun x y H Q => ∃ p xs i v, x = .ref p ∧ y = .int i ∧ SqT K H p xs ∧ atI xs i = some v ∧ Q v H
theorem ix_list : IxR X (rIxL X.K) := by
  intro value slice pins s σ H x y v u Q I rx ry h hs
  obtain ⟨p, xs, i, z, rfl, rfl, hq, he, q⟩ := h
  cases rx
  obtain ⟨t, rfl⟩ := ry
  obtain ⟨its, r, pl, hz⟩ := I.list hq
  obtain ⟨j, h1, h2, h3, h4, h5⟩ := atI_get he
  obtain ⟨w, ew, rw'⟩ := r.get h2
  have hl := r.length
  have hn := line63
  have fin : EP X pins σ Q w s := ⟨z, H, I, rw', q⟩
  by_cases h0 : 0 ≤ i
  · have hj : i.toNat = j := by
      rw [seqIndex_of h0 h5] at h1
      exact Option.some.inj h1
    exact item_listR pl.isList h0 (by omega) (by rw [hj]; simpa using ew) fin hs
  · have hj : (i + (its.toArray.size : Int)).toNat = j := by
      rw [seqIndex_neg (by omega) h4] at h1
      rw [List.size_toArray, ← hl]
      exact Option.some.inj h1
    exact subscriptTail_builtinR (x := w) pl.isList.typeIs slot_list_getitem.lookup
      (wpAny_getItem_list_neg (Q := fun r s' => r = w ∧ EP X pins σ Q r s') pl.isList (by omega) (by rw [List.size_toArray] <;> omega) (by omega) (by rw [hj]; simpa using ew) ⟨rfl, fin⟩) hs
theorem ix_tup : IxR X (rIxT X.K) := by
  intro value slice pins s σ H x y v u Q I rx ry h hs
  obtain ⟨p, xs, i, z, rfl, rfl, hq, he, q⟩ := h
  cases rx
  obtain ⟨t, rfl⟩ := ry
  obtain ⟨its, r, pl, hz⟩ := I.tuple hq
  obtain ⟨j, h1, h2, h3, h4, h5⟩ := atI_get he
  obtain ⟨w, ew, rw'⟩ := r.get h2
  have hl := r.length
  have hn := line63
  have fin : EP X pins σ Q w s := ⟨z, H, I, rw', q⟩
  exact subscriptTail_builtinR (x := w) pl.typeIs slot_tuple_getitem.lookup
    (getItem_tuple (j := j) (Q := fun r s' => r = w ∧ EP X pins σ Q r s') pl (by omega) (by omega) (by rw [List.size_toArray, ← hl]; exact h1) (by simpa using ew) ⟨rfl, fin⟩) hs
/-! ### xs[i] = v, any sign -/
/-- the list's object behind a store -/
theorem mapSeq_set (its : List Value) (n j : Nat) (u : Value) : Obj.mapSeq (·.setIfInBounds j u) { cls := .type "list", data := .seq its.toArray n } = { cls := .type "list", data := .seq (its.set j u).toArray n } := by
  simp [Obj.mapSeq]
theorem Inv.lst {pins : List (Addr × Obj)} {σ : St} {H : Hp} {s : Shared} {p : Addr} {xs : List V} (I : Inv X pins σ H s) (h : H p = some (.lst xs)) :
    ∃ (its : List Value) (n : Nat), Vals xs its ∧ s.heap.get? p = some { cls := .type "list", data := .seq its.toArray n } ∧ xs.length ≤ sizeLine := by
  obtain ⟨z, its, n, r, e⟩ := I.hok p _ h
  exact ⟨its, n, r, e, z⟩
/-- the list at p is written by an update of its object -/
theorem Inv.lstUpd {pins : List (Addr × Obj)} {σ : St} {H : Hp} {s : Shared} {p : Addr} {xs ys : List V} {its its' : List Value} {n n' : Nat} {f : Obj → Obj} (I : Inv X pins σ H s) (h : H p = some (.lst xs))
    (ho : s.heap.get? p = some { cls := .type "list", data := .seq its.toArray n }) (hf : f { cls := .type "list", data := .seq its.toArray n } = { cls := .type "list", data := .seq its'.toArray n' }) (r : Vals ys its') (hz : ys.length ≤ sizeLine) (t : Nat) :
    Inv X pins σ (upd H p (.lst ys)) { s with heap := s.heap.update p f, toks := t } := by
  have e : (s.heap.update p f).get? p = some { cls := .type "list", data := .seq its'.toArray n' } := by
    rw [Heap.get?_update_self f ho (by rw [hf] <;> rfl), hf]
  refine I.write (x := p) (e := p) (by rw [h]; trivial) (.inl rfl) (fun b u hb q => (Heap.get?_update_other _ _ (Ne.symm hb)).trans q) ⟨_, e⟩ ?_
  exact ⟨hz, its', n', r, e⟩
def rSetL : V → V → V → Hp → (Hp → Prop) → Prop := fun o i v H Q => ∃ p xs k j, o = .ref p ∧ i = .int k ∧ H p = some (.lst xs) ∧ ixN xs.length k = some j ∧ Q (upd H p (.lst (xs.set j v)))
theorem set_list : PSet X rSetL := by
  intro pins s σ H o i v ov iv u Q I ro ri rv h
  obtain ⟨p, xs, k, j, rfl, rfl, hp, hj, q⟩ := h
  cases ro
  obtain ⟨t, rfl⟩ := ri
  obtain ⟨its, n, r, ho, hz⟩ := I.lst hp
  obtain ⟨h1, h2, h3, h4⟩ := ixN_seq hj
  have hl := r.length
  have hn := line63
  have I' : Inv X pins σ (upd H p (.lst (xs.set j v))) { s with heap := s.heap.update p (Obj.mapSeq (·.setIfInBounds j u)) } :=
    I.lstUpd hp ho (mapSeq_set its n j u) (r.set rv j) (by rw [List.length_set]; exact hz) s.toks
  by_cases h0 : 0 ≤ k
  · have hk : k.toNat = j := by
      rw [seqIndex_of h0 h4] at h1
      exact Option.some.inj h1
    exact PySem.W.ki_setAt ho h0 (by omega) (by rw [List.size_toArray, ← hl]; exact h4) (by rw [hk]; exact ⟨_, I', q⟩)
  · have hk : (k + (its.toArray.size : Int)).toNat = j := by
      rw [seqIndex_neg (by omega) h3] at h1
      rw [List.size_toArray, ← hl]
      exact Option.some.inj h1
    exact PySem.W.ki_setBack ho (by omega) (by rw [List.size_toArray, ← hl]; exact h3) (by omega) (by rw [hk]; exact ⟨_, I', q⟩)

/-! ### slices -/
theorem slice_bounds (lo hi : Option Int) (n : Nat) : (sliceBounds lo hi none n).1 = ((HT.sIx n 0 lo : Nat) : Int) ∧ (sliceBounds lo hi none n).2.1 = ((HT.sIx n n hi : Nat) : Int) ∧ (sliceBounds lo hi none n).2.2 = 1 := by
  refine ⟨?_, ?_, rfl⟩
  · cases lo with
    | none => simp [sliceBounds, HT.sIx]
    | some i =>
      simp only [sliceBounds, HT.sIx, Option.getD_none, show (1 : Int) > 0 by decide, if_true]
      by_cases h : i < 0
      · simp only [h, if_true] <;> omega
      · simp only [h, if_false] <;> omega
  · cases hi with
    | none => simp [sliceBounds, HT.sIx]
    | some i =>
      simp only [sliceBounds, HT.sIx, Option.getD_none, show (1 : Int) > 0 by decide, if_true]
      by_cases h : i < 0
      · simp only [h, if_true] <;> omega
      · simp only [h, if_false] <;> omega
theorem slicePick_cut (its : List Value) (lo hi : Option Int) : slicePick its.toArray lo hi none = ((its.drop (HT.sIx its.length 0 lo)).take (HT.sIx its.length its.length hi - HT.sIx its.length 0 lo)).toArray := by
  obtain ⟨h1, h2, h3⟩ := slice_bounds lo hi its.toArray.size
  unfold slicePick
  rw [h1, h2, h3]
  simp only [sliceRange_one, pick_run, List.size_toArray] <;> rfl
/-- xs[lo:hi] of a list: a new list -/
def rSlL (K : PySem.W.Frag) : V → Option Int → Option Int → Hp → VK → Prop := fun x lo hi H Q => ∃ a xs, x = .ref a ∧ SqL K H a xs ∧ ∀ p, H p = none → Q (.ref p) (upd H p (.lst (cutV xs lo hi)))
theorem sl_list : SlR X (rSlL X.K) := by
  intro pins s σ H x v vl vu lo hi sl Q I rx hs pl pu h
  obtain ⟨a, xs, rfl, hx, q⟩ := h
  cases rx
  obtain ⟨its, r, ht, hz⟩ := I.list hx
  have hlen := r.length
  refine ⟨"list", _, slot_list_getitem.lookup, ht.isList.typeIs, ?_⟩
  refine wpAny_getItem_list_slice ht.isList hs pl pu .none (by simp) ?_ (by rw [List.size_toArray] <;> omega)
  rw [slicePick_cut, ← hlen]
  refine ⟨.ref s.heap.objs.size, _, I.laid (t' := s.toks) (o := .lst (cutV xs lo hi)) (fun b ob q => Heap.get?_push_of_some _ q) (Nat.le_refl _) ?_, rfl, q _ (I.hok.fresh (Nat.le_refl _))⟩
  exact ⟨Nat.le_trans (cutV_length xs lo hi) hz, _, 0, (r.drop (HT.sIx xs.length 0 lo)).take (HT.sIx xs.length xs.length hi - HT.sIx xs.length 0 lo), Heap.get?_push_size _ rfl⟩

/-! ### in, not in: flat items -/
def flatV : V → Bool
  | .non => true
  | .bl _ => true
  | .int _ => true
  | .str _ => true
  | _ => false
/-- == of flat values -/
def eqV : V → V → Bool
  | .non, .non => true
  | .bl a, .bl b => a == b
  | .bl a, .int b => (if a then 1 else 0) == b
  | .int a, .bl b => a == (if b then 1 else 0)
  | .int a, .int b => a == b
  | .str a, .str b => a == b
  | _, _ => false
theorem eqAt_V {A : Around} {s : Shared} {y x : V} {u v : Value} (ry : RelV y u) (rx : RelV x v) (fy : flatV y = true) (fx : flatV x = true) : SeqAt.EqAt A s u v (eqV y x) := by
  cases y with
  | non =>
    cases ry
    cases x with
    | non => cases rx; exact SeqAt.EqAt.same _
    | bl b => cases rx; exact SeqAt.EqAt.none_bool b
    | int b => obtain ⟨t, rfl⟩ := rx; exact SeqAt.EqAt.none_int b t
    | str b => obtain ⟨t, rfl⟩ := rx; exact SeqAt.EqAt.none_str b t
    | _ => exact absurd (show false = true from fx) Bool.false_ne_true
  | bl a =>
    cases ry
    cases x with
    | non => cases rx; exact SeqAt.EqAt.bool_none a
    | bl b => cases rx; exact SeqAt.EqAt.bool_bool a b
    | int b => obtain ⟨t, rfl⟩ := rx; exact SeqAt.EqAt.bool_int a b t
    | str b => obtain ⟨t, rfl⟩ := rx; exact SeqAt.EqAt.bool_str a b t
    | _ => exact absurd (show false = true from fx) Bool.false_ne_true
  | int a =>
    obtain ⟨t', rfl⟩ := ry
    cases x with
    | non => cases rx; exact SeqAt.EqAt.int_none a t'
    | bl b => cases rx; exact SeqAt.EqAt.int_bool a t' b
    | int b => obtain ⟨t, rfl⟩ := rx; exact SeqAt.EqAt.int_int a t' b t
    | str b => obtain ⟨t, rfl⟩ := rx; exact SeqAt.EqAt.int_str a t' b t
    | _ => exact absurd (show false = true from fx) Bool.false_ne_true
  | str a =>
    obtain ⟨t', rfl⟩ := ry
    cases x with
    | non => cases rx; exact SeqAt.EqAt.str_none a t'
    | bl b => cases rx; exact SeqAt.EqAt.str_bool a t' b
    | int b => obtain ⟨t, rfl⟩ := rx; exact SeqAt.EqAt.str_int a t' b t
    | str b => obtain ⟨t, rfl⟩ := rx; exact SeqAt.EqAt.str_str a t' b t
    | _ => exact absurd (show false = true from fx) Bool.false_ne_true
  | _ => exact absurd (show false = true from fy) Bool.false_ne_true
/-- the items' answers, read off the values (a value's own answer does not lean on its token) -/
def eqU (x : V) (u : Value) : Bool := match u with
  | .none => eqV .non x
  | .bool b => eqV (.bl b) x
  | .int i _ => eqV (.int i) x
  | .str z _ => eqV (.str z) x
  | _ => false
theorem eqU_of {x y : V} {u : Value} (r : RelV y u) (f : flatV y = true) : eqU x u = eqV y x := by
  cases y with
  | non => cases r; rfl
  | bl b => cases r; rfl
  | int i => obtain ⟨t, rfl⟩ := r; rfl
  | str z => obtain ⟨t, rfl⟩ := r; rfl
  | _ => exact absurd (show false = true from f) Bool.false_ne_true
theorem mem_eqAt {A : Around} {s : Shared} {x : V} {v : Value} (rx : RelV x v) (fx : flatV x = true) : ∀ {xs : List V} {us : List Value}, Vals xs us → xs.all flatV = true → ∀ u ∈ us, SeqAt.EqAt A s u v (eqU x u)
  | _, _, .nil, _ => fun u hu => by cases hu
  | y :: xs, u :: us, .cons r t, f => fun u' hu => by
    rw [List.all_cons, Bool.and_eq_true] at f
    rcases List.mem_cons.mp hu with rfl | hu
    · rw [eqU_of r f.1]; exact eqAt_V r rx f.1 fx
    · exact mem_eqAt rx fx t f.2 u' hu
/-! ### len, list(x), tuple(x) of any list or tuple that is read -/
theorem call_len_seq : CallR X (.builtin "len") (fun xs H Q => ∃ p ys, xs = [.ref p] ∧ (SqL X.K H p ys ∨ SqT X.K H p ys) ∧ Q (.int ys.length) H) := by
  intro pins s σ H xs us Q I r h
  obtain ⟨p, ys, rfl, hq, q⟩ := h
  obtain ⟨u, rfl, rx⟩ := vals1 r
  cases rx
  have hn := line63
  rcases hq with hq | hq
  · obtain ⟨its, r', pl, hz⟩ := I.list hq
    have hlen := r'.length
    exact Calls.call_len_list pl.isList (by simp only [List.size_toArray] <;> omega) ⟨.int ys.length, H, I.tok _, ⟨s.toks + 1, by rw [List.size_toArray, hlen]⟩, q⟩
  · obtain ⟨its, r', pl, hz⟩ := I.tuple hq
    have hlen := r'.length
    exact len_tuple pl (by simp only [List.size_toArray] <;> omega) ⟨.int ys.length, H, I.tok _, ⟨s.toks + 1, by rw [List.size_toArray, hlen]⟩, q⟩
theorem call_list_of : CallR X (.type "list") (fun xs H Q => ∃ p ys, xs = [.ref p] ∧ (SqL X.K H p ys ∨ SqT X.K H p ys) ∧ ∀ l, H l = none → Q (.ref l) (upd H l (.lst ys))) := by
  intro pins s σ H xs us Q I r h
  obtain ⟨p, ys, rfl, hq, q⟩ := h
  obtain ⟨u, rfl, rx⟩ := vals1 r
  cases rx
  have fin : ∀ (its : List Value), Vals ys its → ys.length ≤ sizeLine → ∀ (h' : Heap) (c' : Nat), (∀ b o', s.heap.get? b = some o' → h'.get? b = some o') →
      h'.get? s.heap.objs.size = some { cls := .type "list", dict := none, data := .seq its.toArray c', slots := #[] } → EP X pins σ Q (.ref s.heap.objs.size) { s with heap := h' } := fun its r' hz h' c' kp e =>
    ⟨.ref s.heap.objs.size, _, I.laid (t' := s.toks) kp (Nat.le_refl _) (show ObjOk X.prog X.w _ h' _ (.lst ys) from ⟨hz, its, c', r', e⟩), rfl, q _ (I.hok.fresh (Nat.le_refl _))⟩
  rcases hq with hq | hq
  · obtain ⟨its, r', pl, hz⟩ := I.list hq
    have hlen := r'.length
    obtain ⟨o, ho, hc, n, hd⟩ := pl.isList
    exact call_list_seq p (.inl rfl) ho hc hd (fun h' c' kp e => fin its r' hz h' c' kp e) (by simp only [List.size_toArray] <;> omega)
  · obtain ⟨its, r', pl, hz⟩ := I.tuple hq
    have hlen := r'.length
    obtain ⟨o, ho, hc, n, hd⟩ := pl
    exact call_list_seq p (.inr rfl) ho hc hd (fun h' c' kp e => fin its r' hz h' c' kp e) (by simp only [List.size_toArray] <;> omega)
/-! ### the call of a builtin's method: o.m(..) -/
/-- the value is of that builtin type -/
def tyV (K : PySem.W.Frag) (T : String) (x : V) (H : Hp) : Prop := match x with
  | .str _ => T = "str"
  | .int _ => T = "int"
  | .ref p => (T = "list" ∧ ∃ xs, SqL K H p xs) ∨ (T = "tuple" ∧ ∃ o, K.lookup p = some o ∧ o.cls = .type "tuple" ∧ o.dict = none) ∨
      (T = "dict" ∧ ((∃ kvs, H p = some (.dK kvs)) ∨ ∃ kvs, H p = some (.dT kvs))) ∨ (T = "set" ∧ ∃ S n, H p = some (.set S n))
  | _ => False
theorem tyV_is {pins : List (Addr × Obj)} {σ : St} {H : Hp} {s : Shared} {T : String} {x : V} {v : Value} (I : Inv X pins σ H s) (r : RelV x v) (ty : tyV X.K T x H) :
    s.TypeIs v T ∧ ∀ a, v = .ref a → ∃ ob, s.heap.get? a = some ob ∧ ob.dict = none := by
  cases x with
  | str z =>
    obtain ⟨t, rfl⟩ := r
    cases (show T = "str" from ty)
    exact ⟨typeIs_str s z t, fun _ e => nomatch e⟩
  | int i =>
    obtain ⟨t, rfl⟩ := r
    cases (show T = "int" from ty)
    exact ⟨typeIs_int s i t, fun _ e => nomatch e⟩
  | ref p =>
    cases r
    rcases ty with ⟨rfl, xs, hq⟩ | ⟨rfl, o, hk, hc, hd⟩ | ⟨rfl, hk⟩ | ⟨rfl, S, n, hk⟩
    · obtain ⟨its, _, pl, _⟩ := I.list hq
      refine ⟨pl.isList.typeIs, fun a e => ?_⟩
      cases e
      obtain ⟨o, n, e, c, hd, _⟩ := pl
      exact ⟨o, e, hd⟩
    · refine ⟨⟨o, I.kIn p o hk, hc⟩, fun a e => ?_⟩
      cases e
      exact ⟨o, I.kIn _ o hk, hd⟩
    · have z : ∃ o, s.heap.get? p = some o ∧ o.ExactDict := by
        rcases hk with ⟨kvs, hk⟩ | ⟨kvs, hk⟩
        · obtain ⟨_, _, _, _, o, _, _, e, ex, _⟩ := I.hok p _ hk
          exact ⟨o, e, ex⟩
        · obtain ⟨_, _, _, _, o, _, _, e, ex, _⟩ := I.hok p _ hk
          exact ⟨o, e, ex⟩
      obtain ⟨o, e, ex⟩ := z
      refine ⟨⟨o, e, ex.1⟩, fun a e2 => ?_⟩
      cases e2
      exact ⟨o, e, ex.2.1⟩
    · obtain ⟨o, _, _, _, e, ex, _⟩ := I.hok p _ hk
      refine ⟨⟨o, e, ex.1⟩, fun a e2 => ?_⟩
      cases e2
      exact ⟨o, e, ex.2.1⟩
  | _ => exact False.elim ty
def tBM (K : PySem.W.Frag) (T : String) (r : V → List V → Hp → VK → Prop) (to : TE) (t : TA) : TE := fun σ H Q => to σ H fun x H1 => tyV K T x H1 ∧ t σ H1 fun xs H2 => r x xs H2 Q
variable {o e : Expr} {es : List Expr} {to : TE} {t : TA} {name : Str} {apos cpos : Pos} {T id : String} {r : V → List V → Hp → VK → Prop}
theorem pe_bm (pa : PlainAttrs T) (slot : Slot T name id) (hty : typeOf (.builtin id) = pure (.type "method_descriptor")) (hm : MtR X id r) (ho : PE X o to) (ha : PA X (e :: es) t)
    (hbase : attributeBase o name X.env (eval o X.env) = eval o X.env := by rfl)
    (hfew : ((backTo cpos (starEach (e :: es) X.env)).all (fun x => !x.1) && (backToKw cpos (keywordEach [] X.env)).all (fun x => x.1.isSome)
      && decide ((e :: es).length + ([] : List Keyword).length + (if ([] : List Keyword).isEmpty then 0 else 1) < 30)) = true := by rfl)
    (hline : (apos.endLine == cpos.line) = true := by rfl) (hs : starEach (e :: es) X.env = (false, eval e X.env) :: starEach es X.env := by rfl) (hplain : (backTo cpos (starEach es X.env)).any (·.1) = false := by rfl) :
    PE X (.Call (.Attribute o name apos) (e :: es) [] cpos) (tBM X.K T r to t) := by
  intro pins s σ H Q I h
  refine wpAny_Call_method_late hbase hfew hline rfl (thn (ho pins s σ H _ I h) fun v s1 ⟨x, H1, I1, r1, ty, q1⟩ => ?_)
  obtain ⟨h1, h2⟩ := tyV_is I1 r1 ty
  refine ⟨T, id, pa, slot, hty, h1, h2, ?_⟩
  have hA := ha cpos pins s1 σ H1 _ I1 q1
  rw [hs] at hA ⊢
  refine Calls.callWith_builtin (by show (false || (backTo cpos (starEach es X.env)).any (·.1)) = false; rw [hplain] <;> rfl) (Calls.evalArgs_plain ?_)
  exact thn hA fun us s2 ⟨vs, H2, I2, r2, q2⟩ => hm pins s2 σ H2 x vs v us Q I2 r1 r2 q2
/- xs.append(e), list.index on a module's tuple .. are MtR facts of 06m -/
end
end L2

namespace L2
open PySem PySem.Spec PyProof.Rows

def MtM (X : Cx) (id : String) (r : V → List V → Hp → VK → Prop) : Prop :=
  ∀ (pins : List (Addr × Obj)) (s : Shared) (σ : St) (H : Hp) (x : V) (xs : List V) (v : Value) (us : List Value) (Q : VK), Inv X pins σ H s → RelV x v → Vals xs us → r x xs H Q →
    wpAny (model X.prog X.w) X.A (call (.builtin id) (v :: us)) (EP X pins σ Q) X.xe s

/-! ### lists of values -/
theorem Vals.one : ∀ {x : V} {us : List Value}, Vals [x] us → ∃ u, us = [u] ∧ RelV x u
  | _, _, .cons r .nil => ⟨_, rfl, r⟩
section
variable {X : Cx} {pins : List (Addr × Obj)} {σ : St} {H : Hp} {s : Shared} {l b : Addr} {xs ys zs : List V}

/-! ### the two steps: a tracked list is rewritten, a new list is laid -/
theorem Inv.lset {its its' : List Value} {n : Nat} {f : Array Value → Array Value} {t' : Nat} (I : Inv X pins σ H s) (hH : H l = some (.lst xs))
    (e : s.heap.get? l = some { cls := .type "list", data := .seq its.toArray n }) (hf : f its.toArray = its'.toArray) (hv : Vals ys its') (hz : ys.length ≤ sizeLine) :
    Inv X pins σ (upd H l (.lst ys)) { s with heap := s.heap.update l (Obj.mapSeq f), toks := t' } := by
  have q := PySem.IsL.update e f
  rw [hf] at q
  refine I.write (x := l) (e := l) (by rw [hH]; exact trivial) (.inl rfl) (fun b' u hb hu => (Heap.get?_update_other s.heap (Obj.mapSeq f) (Ne.symm hb)).trans hu) ⟨_, q⟩ ?_
  exact ⟨hz, its', _, hv, q⟩
theorem Inv.lnew {its : List Value} {t' : Nat} (I : Inv X pins σ H s) (hv : Vals ys its) (hz : ys.length ≤ sizeLine) :
    Inv X pins σ (upd H s.heap.objs.size (.lst ys)) { s with heap := s.heap.push { cls := .type "list", data := .seq its.toArray }, toks := t' } :=
  I.laid (fun _ _ q => Heap.get?_push_of_some _ q) (Nat.le_refl _) ⟨hz, its, 0, hv, Heap.get?_push_size _ rfl⟩
theorem Inv.fresh (I : Inv X pins σ H s) : H s.heap.objs.size = none := I.hok.fresh (Nat.le_refl _)
theorem Inv.lstM (I : Inv X pins σ H s) (hH : H l = some (.lst xs)) : xs.length ≤ sizeLine ∧ ∃ (its : List Value) (n : Nat), Vals xs its ∧ xs.length = its.length ∧ s.heap.get? l = some { cls := .type "list", data := .seq its.toArray n } := by
  obtain ⟨z, its, n, r, e⟩ := I.hok l _ hH
  exact ⟨z, its, n, r, r.length, e⟩

theorem notLongL {n : Nat} (h : n ≤ sizeLine) : Builtin.List.listTooLong n = false := by
  unfold Builtin.List.listTooLong
  exact decide_eq_false (by omega)
end

section
variable {X : Cx}

/-! ### methods -/
def rAppend : V → List V → Hp → VK → Prop := fun x vs H Q => ∃ l xs y, x = .ref l ∧ vs = [y] ∧ H l = some (.lst xs) ∧ xs.length < sizeLine ∧ Q .non (upd H l (.lst (xs ++ [y])))
theorem mt_append : MtM X "list.append" rAppend := by
  intro pins s σ H x vs v us Q I rx rv h
  obtain ⟨l, xs, y, rfl, rfl, hH, hz, q⟩ := h
  cases rx
  obtain ⟨u, rfl, ru⟩ := rv.one
  obtain ⟨z, its, n, r, hl, e⟩ := I.lstM hH
  refine call_meets F.slot_list_append ⟨_, e, rfl⟩ F.entry_list_append (F.args_list_append_2 _ _) (PySem.list_append l its.toArray n u (by rw [List.size_toArray]; omega)) ⟨e, ?_⟩
  refine ⟨.non, _, I.lset (its' := its ++ [u]) hH e (by simp) (r.append (.cons ru .nil)) ?_, rfl, q⟩
  rw [List.length_append, List.length_singleton]
  omega

def rExtend : V → List V → Hp → VK → Prop := fun x vs H Q => ∃ l b xs zs, x = .ref l ∧ vs = [.ref b] ∧ H l = some (.lst xs) ∧ H b = some (.lst zs) ∧ xs.length + zs.length ≤ sizeLine ∧ Q .non (upd H l (.lst (xs ++ zs)))
theorem mt_extend : MtM X "list.extend" rExtend := by
  intro pins s σ H x vs v us Q I rx rv h
  obtain ⟨l, b, xs, zs, rfl, rfl, hH, hB, hz, q⟩ := h
  cases rx
  obtain ⟨u, rfl, ru⟩ := rv.one
  cases ru
  obtain ⟨z, its, n, r, hl, e⟩ := I.lstM hH
  obtain ⟨z2, its2, n2, r2, hl2, e2⟩ := I.lstM hB
  have hsz : its.toArray.size + its2.toArray.size ≤ sizeLine := by rw [List.size_toArray, List.size_toArray]; omega
  have hlong : ¬ (!its.toArray.isEmpty && Builtin.List.listTooLong (its.toArray.size + its2.toArray.size)) = true := by
    rw [notLongL hsz, Bool.and_false]
    exact Bool.false_ne_true
  refine call_meets F.slot_list_extend ⟨_, e, rfl⟩ F.entry_list_extend (F.args_list_extend_2 _ _)
    (AutoSeq1.list_extend_list_list_0 l its.toArray n b its2.toArray n2 hlong (by rw [List.size_toArray]; omega) (by omega)) ⟨e, e2, ?_⟩
  refine ⟨.non, _, I.lset (its' := its ++ its2) hH e (by simp) (r.append r2) ?_, rfl, q⟩
  rw [List.length_append]
  omega

/-! ### list + list, list += list, list * int -/
def rCat : R2 := fun x y H Q => ∃ l b xs zs, x = .ref l ∧ y = .ref b ∧ H l = some (.lst xs) ∧ H b = some (.lst zs) ∧ xs.length + zs.length ≤ sizeLine ∧ ∀ p, H p = none → Q (.ref p) (upd H p (.lst (xs ++ zs)))
theorem op_cat : OpR X (binaryOp .Add) rCat := by
  intro pins s σ H x y v u Q I rx ry h
  obtain ⟨l, b, xs, zs, rfl, rfl, hH, hB, hz, q⟩ := h
  cases rx
  cases ry
  obtain ⟨z, its, n, r, hl, e⟩ := I.lstM hH
  obtain ⟨z2, its2, n2, r2, hl2, e2⟩ := I.lstM hB
  refine PySem.P.add_list e e2 ?_ (by rw [List.size_toArray, List.size_toArray]; omega)
  have ea : its.toArray ++ its2.toArray = (its ++ its2).toArray := by simp
  rw [ea]
  exact ⟨.ref _, _, I.lnew (t' := s.toks) (r.append r2) (by rw [List.length_append]; omega), rfl, q _ I.fresh⟩
/-! ### del xs[i] -/
end

/-! ### xs[a:b] = ys -/
section
variable {prog : Program} {w : World} {A : Around} {E : Value → Shared → Prop} {s : Shared}
set_option maxRecDepth 100000 in
end

section
variable {X : Cx}
end
end L2

namespace L2
open PySem PySem.Spec PyProof.Rows

theorem Vals.ints : ∀ {ns : List Int} {us : List Value}, Vals (ns.map V.int) us → IntsAre us ns
  | [], us, h => by
    rw [List.map_nil] at h
    cases h
    exact IntsAre.nil
  | n :: ns, us, h => by
    rw [List.map_cons] at h
    cases h with
    | cons r t =>
      obtain ⟨k, rfl⟩ := r
      exact IntsAre.cons n k (Vals.ints t)
theorem vals_of_ints : ∀ {us : List Value} {ns : List Int}, IntsAre us ns → Vals (ns.map V.int) us
  | _, _, .nil => by rw [List.map_nil]; exact Paired.nil
  | _, _, .cons n t h => by rw [List.map_cons]; exact Paired.cons (show RelV (V.int n) (Value.int n t) from ⟨t, rfl⟩) (vals_of_ints h)
theorem Vals.ref1 {a : Addr} {us : List Value} (r : Vals [V.ref a] us) : us = [Value.ref a] := by
  cases r with
  | cons r t =>
    cases t
    cases r
    rfl
/-! ### the library's walks over a list of ints, kept objects alone -/
section
variable {prog : Program} {w : World} {A : Around} {E : Value → Shared → Prop} {s : Shared} {l : Addr} {its : List Value} {ns : List Int} {Q : Value → Shared → Prop}
theorem sum_raw (hh : A.handled = none) (hl : s.heap.IsList l its.toArray) (hi : IntsAre its ns)
    (h : ∀ h' tk t', (∀ b o, s.heap.get? b = some o → h'.get? b = some o) → Q (.int ns.sum t') { s with heap := h', toks := tk }) : wpAny (model prog w) A (call (.builtin "sum") [.ref l]) Q E s := by
  obtain ⟨xs, e⟩ := hi.allInts.items
  have hn : numsOf (intItems xs).toList = ns := by rw [← e]; exact hi.numsOf
  rw [nums_intItems] at hn
  rw [e] at hl
  refine PySem.sum_intListG hh hl fun h' tk t' hk => ?_
  have := h h' tk t' hk
  rw [preSum_eq, List.take_of_length_le (by simp), hn]; exact this
theorem max_raw (hh : A.handled = none) (hl : s.heap.IsList l its.toArray) (hi : IntsAre its ns) (hne : 0 < ns.length)
    (h : ∀ h' tk M t', (∀ b o, s.heap.get? b = some o → h'.get? b = some o) → M ∈ ns → (∀ a, a ∈ ns → a ≤ M) → Q (.int M t') { s with heap := h', toks := tk }) : wpAny (model prog w) A (call (.builtin "max") [.ref l]) Q E s := by
  obtain ⟨xs, e⟩ := hi.allInts.items
  have hn : numsOf (intItems xs).toList = ns := by rw [← e]; exact hi.numsOf
  rw [nums_intItems] at hn
  subst hn
  rw [e] at hl
  have hsz : 0 < xs.size := by simpa using hne
  refine PySem.max_intList hh hl hsz fun v h' tk hv hk => ?_
  obtain ⟨t, rfl⟩ := intItems_at hv
  obtain ⟨h1, h2⟩ := argBest_gt (numAt xs) (xs.size - 1)
  refine h h' tk _ t hk ?_ fun a ha => ?_
  · rw [numAt_eq]; exact PySem.getD_mem (by rw [List.length_map, Array.length_toList]; omega)
  · obtain ⟨j, hj, rfl⟩ := mem_getD ha
    rw [List.length_map, Array.length_toList] at hj
    rw [← numAt_eq]; exact h2 j (by omega)
end

/-! ### the calls, by values (CallR of 03t; MtR of 06l) -/
section
variable {X : Cx}
/-- sum(xs) of a list of ints -/
def rSum (K : PySem.W.Frag) : List V → Hp → VK → Prop := fun vs H Q => ∃ (a : Addr) (ns : List Int), vs = [V.ref a] ∧ SqL K H a (ns.map V.int) ∧ Q (.int ns.sum) H
/-- max(xs), min(xs) of a list of ints -/
def rMax (K : PySem.W.Frag) : List V → Hp → VK → Prop := fun vs H Q => ∃ (a : Addr) (ns : List Int), vs = [V.ref a] ∧ SqL K H a (ns.map V.int) ∧ 0 < ns.length ∧ ∀ m, m ∈ ns → (∀ y, y ∈ ns → y ≤ m) → Q (.int m) H
theorem cr_sum (hc : X.calm = true) : CallR X (.builtin "sum") (rSum X.K) := by
  intro pins s σ H vs us Q I r h
  obtain ⟨a, ns, rfl, hs, q⟩ := h
  obtain ⟨its, rv, hl, _⟩ := I.list hs
  rw [Vals.ref1 r]
  exact sum_raw (I.ok.hd hc) hl.isList rv.ints fun h' tk t' hk => ⟨.int _, H, I.kept hk, ⟨_, rfl⟩, q⟩
theorem cr_max (hc : X.calm = true) : CallR X (.builtin "max") (rMax X.K) := by
  intro pins s σ H vs us Q I r h
  obtain ⟨a, ns, rfl, hs, hne, q⟩ := h
  obtain ⟨its, rv, hl, _⟩ := I.list hs
  rw [Vals.ref1 r]
  exact max_raw (I.ok.hd hc) hl.isList rv.ints hne fun h' tk m t' hk h1 h2 => ⟨.int _, H, I.kept hk, ⟨_, rfl⟩, q m h1 h2⟩
/-! sorted, sort (fewer than 64 items: the library's own bound) -/
theorem small64 {n : Nat} (h : n < 64) : n ≤ sizeLine := by rw [sizeLine_eq]; omega
end

/-! ### list.index, flat items -/
section
variable {X : Cx}
def rIndex (K : PySem.W.Frag) : V → List V → Hp → VK → Prop := fun x xs H Q => ∃ (a : Addr) (ys : List V) (y : V) (j : Nat) (z : V), x = V.ref a ∧ xs = [y] ∧ SqL K H a ys ∧ flatV y = true ∧ ys.all flatV = true ∧ ys[j]? = some z ∧ eqV z y = true ∧
  (∀ (m : Nat) (z' : V), m < j → ys[m]? = some z' → eqV z' y = false) ∧ Q (.int (j : Nat)) H
theorem flat_at {ys : List V} (f : ys.all flatV = true) {j : Nat} {z : V} (h : ys[j]? = some z) : flatV z = true := List.all_eq_true.mp f z (List.mem_of_getElem? h)
theorem mt_index : MtR X "list.index" (rIndex X.K) := by
  intro pins s σ H x xs v us Q I rx rxs h
  obtain ⟨a, ys, y, j, z, rfl, rfl, hs, fy, fys, hz, hzj, hno, q⟩ := h
  cases rx
  cases rxs with
  | cons ry rt =>
    rename_i uy ut
    cases rt
    obtain ⟨its, rv, ⟨⟨cls, dd, data, sl⟩, n, ho, hc, hdn, hd⟩, hlen⟩ := I.list hs
    simp only at hc hd
    subst hc hd
    obtain ⟨u, hu, ru⟩ := rv.get hz
    obtain ⟨hjl, hje⟩ := List.getElem?_eq_some_iff.mp hu
    have hvl := rv.length
    have hj : j < its.toArray.size := by simpa using hjl
    have hsl := sizeLine_eq
    refine call_meets PySem.F.slot_list_index ⟨_, ho, rfl⟩ PySem.F.entry_list_index (PySem.F.args_list_index_2 _ _)
      (SeqAt.list_indexAt a its.toArray n dd sl uy (eqU y) j hj (by omega) ?_ ?_) ⟨ho, fun u' hu' => mem_eqAt ry fy rv fys u' (by simpa using hu'), ?_⟩
    · have e1 : its.toArray[j] = u := by simpa using hje
      rw [e1, eqU_of ru (flat_at fys hz)]
      exact hzj
    · intro m hm hmj
      have hml : m < its.length := by simpa using hm
      have hmy : m < ys.length := by omega
      have hy' : ys[m]? = some ys[m] := List.getElem?_eq_getElem hmy
      obtain ⟨u2, hu2, ru2⟩ := rv.get hy'
      obtain ⟨_, hme⟩ := List.getElem?_eq_some_iff.mp hu2
      have e1 : its.toArray[m] = u2 := by simpa using hme
      rw [e1, eqU_of ru2 (flat_at fys hy')]
      exact hno m _ hmj hy'
    · exact ⟨.int (j : Nat), H, I.tok _, ⟨_, rfl⟩, q⟩
end

/-! ### type(x) of an own instance; is, is not of a module's class -/
section
variable {X : Cx}
end

/-! ### any(xs), all(xs) of a list of bools -/
section
variable {X : Cx}
end

/-! ### == and != of data at any depth: none, bools, ints, texts, lists, tuples -/
section
variable {X : Cx} {pins : List (Addr × Obj)} {σ : St} {H : Hp} {s : Shared}
end
section
variable {X : Cx}
end
end L2

namespace L2
open PySem PySem.Spec PyProof.Rows
abbrev CellAt (h : Heap) (c : Addr) (v : Option Value) : Prop := h.IsCell c v
def relS (scope sc : Scope) : Scope :=
  { scope with names := scope.names.map fun (n, k) => if (k == .free && sc.kind == .function && sc.names.lookup n == some .cell) then (n, .cell) else (n, k) }

def cloFrom (cells : List (Str × Addr)) : List (Str × NameKind) → List (Str × Addr) → List (Str × Addr)
  | [], acc => acc
  | (n, k) :: r, acc => if k == .free then cloFrom cells r ((n, (cells.lookup n).getD 0) :: acc) else cloFrom cells r acc

theorem closure_loop (env : Env) (f : Str × NameKind → List (Str × Addr) → Sem (ForInStep (List (Str × Addr))))
    (hf : ∀ n k c, f (n, k) c = if k == .free then (do let a ← cellOf env n; pure (.yield ((n, a) :: c))) else pure (.yield c)) :
    ∀ (names : List (Str × NameKind)) (acc : List (Str × Addr)), (∀ y ∈ names, y.2 = .free → ∃ c, env.cells.lookup y.1 = some c) → forIn names acc f = pure (cloFrom env.cells names acc)
  | [], acc, _ => by rw [List.forIn_nil]; rfl
  | (n, k) :: r, acc, h => by
    rw [List.forIn_cons, hf]
    have ih := fun acc => closure_loop env f hf r acc fun y hy => h y (List.mem_cons_of_mem _ hy)
    unfold cloFrom
    by_cases hk : (k == NameKind.free) = true
    · rw [if_pos hk, if_pos hk]
      obtain ⟨c, hc⟩ := h (n, k) List.mem_cons_self (by simpa using hk)
      have e : cellOf env n = pure c := by unfold cellOf; rw [hc]
      rw [e]
      have e2 : (env.cells.lookup n).getD 0 = c := by rw [hc]; rfl
      rw [e2]
      exact ih _
    · rw [if_neg hk, if_neg hk]
      exact ih _
theorem closure_ok {scope : Scope} {env : Env} (h : ∀ y ∈ scope.names, y.2 = .free → ∃ c, env.cells.lookup y.1 = some c) : closureFor scope env = pure (cloFrom env.cells scope.names []) := by
  simp only [closureFor]
  rw [closure_loop env _ (fun n k c => rfl) scope.names [] h]
  rfl

theorem mem_lookup {α : Type} : ∀ {l : List (Str × α)} {n : Str} {c : α}, (n, c) ∈ l → ∃ c', l.lookup n = some c'
  | (k, v) :: r, n, c, h => by
    rw [List.lookup_cons]
    cases hb : n == k with
    | true => exact ⟨_, rfl⟩
    | false =>
      rcases List.mem_cons.mp h with e | h
      · cases e; simp at hb
      · exact mem_lookup h

theorem cloFrom_mem {cells : List (Str × Addr)} : ∀ {names : List (Str × NameKind)} {acc : List (Str × Addr)} {n : Str} {c : Addr}, (n, c) ∈ cloFrom cells names acc → (n, c) ∈ acc ∨ ((n, .free) ∈ names ∧ c = (cells.lookup n).getD 0)
  | [], _, _, _, h => .inl h
  | (m, k) :: r, acc, n, c, h => by
    unfold cloFrom at h
    split at h
    · rename_i hk
      have hk : k = .free := by simpa using hk
      rcases cloFrom_mem h with h | ⟨h1, h2⟩
      · rcases List.mem_cons.mp h with e | h
        · cases e; exact .inr ⟨hk ▸ List.mem_cons_self, rfl⟩
        · exact .inl h
      · exact .inr ⟨List.mem_cons_of_mem _ h1, h2⟩
    · rcases cloFrom_mem h with h | ⟨h1, h2⟩
      · exact .inl h
      · exact .inr ⟨List.mem_cons_of_mem _ h1, h2⟩
theorem cloFrom_acc {cells : List (Str × Addr)} : ∀ {names : List (Str × NameKind)} {acc : List (Str × Addr)} {p : Str × Addr}, p ∈ acc → p ∈ cloFrom cells names acc
  | [], _, _, h => h
  | (m, k) :: r, acc, p, h => by
    unfold cloFrom
    split
    · exact cloFrom_acc (List.mem_cons_of_mem _ h)
    · exact cloFrom_acc h
theorem cloFrom_has {cells : List (Str × Addr)} : ∀ {names : List (Str × NameKind)} {acc : List (Str × Addr)} {n : Str}, (n, .free) ∈ names → (n, (cells.lookup n).getD 0) ∈ cloFrom cells names acc
  | (m, k) :: r, acc, n, h => by
    unfold cloFrom
    rcases List.mem_cons.mp h with e | h
    · cases e
      exact cloFrom_acc List.mem_cons_self
    · split
      · exact cloFrom_has h
      · exact cloFrom_has h

theorem cells_mem : ∀ {names : List (Str × NameKind)} {h : Heap} {acc : List (Str × Addr)} {x : Str} {c : Addr}, (x, c) ∈ cellsFrom h.objs.size names acc →
    (x, c) ∈ acc ∨ ((x, .cell) ∈ names ∧ h.objs.size ≤ c ∧ CellAt (pushCells h names) c none)
  | [], _, _, _, _, h => .inl h
  | (n, k) :: r, h, acc, x, c, hm => by
    unfold cellsFrom at hm
    unfold pushCells
    split at hm
    · rename_i hk
      rw [if_pos hk]
      have hk : k = .cell := by simpa using hk
      rw [← Heap.size_push h { cls := .type "cell", data := .cell none }] at hm
      rcases cells_mem hm with hm | ⟨h1, h2, h3⟩
      · rcases List.mem_cons.mp hm with e | hm
        · cases e
          exact .inr ⟨hk ▸ List.mem_cons_self, Nat.le_refl _, _, pushCells_keeps r _ _ _ (Heap.get?_push_size _ rfl), rfl⟩
        · exact .inl hm
      · rw [Heap.size_push] at h2
        exact .inr ⟨List.mem_cons_of_mem _ h1, Nat.le_of_succ_le h2, h3⟩
    · rename_i hk
      rw [if_neg hk]
      rcases cells_mem hm with hm | ⟨h1, h2, h3⟩
      · exact .inl hm
      · exact .inr ⟨List.mem_cons_of_mem _ h1, h2, h3⟩
theorem cells_acc : ∀ {names : List (Str × NameKind)} {n : Nat} {acc : List (Str × Addr)} {p : Str × Addr}, p ∈ acc → p ∈ cellsFrom n names acc
  | [], _, _, _, h => h
  | (m, k) :: r, n, acc, p, h => by
    unfold cellsFrom
    split
    · exact cells_acc (List.mem_cons_of_mem _ h)
    · exact cells_acc h
theorem cells_has : ∀ {names : List (Str × NameKind)} {n : Nat} {acc : List (Str × Addr)} {x : Str}, (x, .cell) ∈ names → ∃ c, (x, c) ∈ cellsFrom n names acc
  | (m, k) :: r, n, acc, x, h => by
    unfold cellsFrom
    rcases List.mem_cons.mp h with e | h
    · cases e
      exact ⟨n, cells_acc List.mem_cons_self⟩
    · split
      · exact cells_has h
      · exact cells_has h
theorem cells_inj : ∀ {names : List (Str × NameKind)} {h : Heap} {acc : List (Str × Addr)} {x y : Str} {c : Addr}, (∀ p ∈ acc, p.2 < h.objs.size) → (∀ x y c, (x, c) ∈ acc → (y, c) ∈ acc → x = y) →
    (x, c) ∈ cellsFrom h.objs.size names acc → (y, c) ∈ cellsFrom h.objs.size names acc → x = y
  | [], _, _, _, _, _, _, hi, h1, h2 => hi _ _ _ h1 h2
  | (n, k) :: r, h, acc, x, y, c, hl, hi, h1, h2 => by
    unfold cellsFrom at h1 h2
    split at h1
    · rename_i hk
      rw [if_pos hk] at h2
      rw [← Heap.size_push h { cls := .type "cell", data := .cell none }] at h1 h2
      refine cells_inj (h := h.push _) (fun p hp => ?_) (fun x y c a b => ?_) h1 h2
      · rw [Heap.size_push]
        rcases List.mem_cons.mp hp with rfl | hp
        · exact Nat.lt_succ_self _
        · exact Nat.lt_succ_of_lt (hl p hp)
      · rcases List.mem_cons.mp a with e | a <;> rcases List.mem_cons.mp b with e' | b
        · cases e; cases e'; rfl
        · cases e; exact absurd (hl _ b) (Nat.lt_irrefl _)
        · cases e'; exact absurd (hl _ a) (Nat.lt_irrefl _)
        · exact hi _ _ _ a b
    · rename_i hk
      rw [if_neg hk] at h2
      exact cells_inj hl hi h1 h2

theorem newEnv_comp {M : Model} {A : Around} {E : Value → Shared → Prop} {s : Shared} {scope : Scope} {globals : Addr} {closure : List (Str × Addr)} {qual : Str} {func : Option Addr} {code : Value} {around : Env} {builtins : Addr} {Q : Env → Shared → Prop}
    (h : Q (newEnv scope s.heap.objs.size globals (cellsFrom (s.heap.objs.size + 1) scope.names closure) qual func code (some around) builtins)
      { s with heap := pushCells (s.heap.push { cls := .type "dict", data := .dict #[] }) scope.names }) :
    wpAny M A (newFunctionEnv scope globals closure [] qual func code (some around) builtins) Q E s := by
  simp only [newFunctionEnv, Option.isSome_some, if_true]
  refine wpAny_bind (wpAny_alloc ?_)
  refine wpAny_bind (wpAny_layCells _ (fun n k c => rfl) scope.names closure _ _ ?_)
  rw [show ({ s with heap := s.heap.push { cls := .type "dict", data := .dict #[] } } : Shared).heap.objs.size = s.heap.objs.size + 1 from Heap.size_push ..]
  rw [List.forIn_nil]
  exact wpAny_bind (wpAny_pure (wpAny_pure h))

/-- every name of the written scope, in the scope that runs -/
theorem lookup_relS {sc : Scope} : ∀ {names : List (Str × NameKind)} {x : Str} {k : NameKind},
    (names.map fun (n, k) => if (k == NameKind.free && sc.kind == .function && sc.names.lookup n == some .cell) then (n, NameKind.cell) else (n, k)).lookup x = some k →
    ∃ k', names.lookup x = some k' ∧ (k = k' ∨ (k' = .free ∧ k = .cell))
  | [], _, _, h => by simp at h
  | (n, k₀) :: r, x, k, h => by
    have ih := @lookup_relS sc r x k
    have h' : List.lookup x ((if (k₀ == NameKind.free && sc.kind == .function && sc.names.lookup n == some .cell) = true then (n, NameKind.cell) else (n, k₀)) :: (r.map _)) = some k := h
    cases hx : x == n with
    | true =>
      simp only [List.lookup_cons, hx]
      by_cases hc : (k₀ == NameKind.free && sc.kind == .function && sc.names.lookup n == some .cell) = true
      · rw [if_pos hc] at h'
        simp only [List.lookup_cons, hx] at h'
        cases h'
        simp only [Bool.and_eq_true, beq_iff_eq] at hc
        exact ⟨k₀, rfl, .inr ⟨hc.1.1, rfl⟩⟩
      · rw [if_neg hc] at h'
        simp only [List.lookup_cons, hx] at h'
        cases h'
        exact ⟨_, rfl, .inl rfl⟩
    | false =>
      simp only [List.lookup_cons, hx]
      by_cases hc : (k₀ == NameKind.free && sc.kind == .function && sc.names.lookup n == some .cell) = true
      · rw [if_pos hc] at h'
        simp only [List.lookup_cons, hx] at h'
        exact ih h'
      · rw [if_neg hc] at h'
        simp only [List.lookup_cons, hx] at h'
        exact ih h'
/-- the names of a comprehension's block: its own (with their places in N), or captured -/
structure BlkOk (N : List Str) (sc scope : Scope) (own : List (Str × Nat)) : Prop where
  kind : scope.kind = .function
  uniq : ∀ y ∈ scope.names, scope.names.lookup y.1 = some y.2
  ix : ∀ p ∈ own, N[p.2]? = some p.1
  free : ∀ y ∈ scope.names, y.2 = .free → sc.names.lookup y.1 = some .cell ∨ sc.names.lookup y.1 = some .free
  own : ∀ y ∈ scope.names, y.2 = .local ∨ y.2 = .cell → y.1 ∈ own.map (·.1) ∨ y.1 ∉ N
/-- the slots of the block's own names forgotten -/
def wipe (σ : St) : List Nat → St
  | [] => σ
  | v :: vs => (wipe σ vs).set v none
theorem wipe_length (σ : St) : ∀ vs : List Nat, (wipe σ vs).length = σ.length
  | [] => rfl
  | v :: vs => by unfold wipe; rw [List.length_set, wipe_length σ vs]
theorem wipe_some {σ : St} {i : Nat} {x : V} : ∀ {vs : List Nat}, (wipe σ vs)[i]? = some (some x) → σ[i]? = some (some x) ∧ i ∉ vs
  | [], h => ⟨h, by simp⟩
  | v :: vs, h => by
    unfold wipe at h
    by_cases hi : v = i
    · subst hi
      by_cases hv : v < (wipe σ vs).length
      · rw [List.getElem?_set_self hv] at h; cases h
      · rw [List.getElem?_eq_none (by simpa using hv)] at h; cases h
    · rw [List.getElem?_set_ne hi] at h
      obtain ⟨h1, h2⟩ := wipe_some h
      exact ⟨h1, by simp only [List.mem_cons, not_or]; exact ⟨fun e => hi e.symm, h2⟩⟩

/-- the context of a block that starts at s, its iterator's objects at fp -/
abbrev Cx.blk (X : Cx) (s : Shared) (H : Hp) (scope : Scope) (cenv : Env) (fp : List Addr) : Cx := { X with s_0 := s, H_0 := H, env := cenv, outer := X.stack, ex := fp, fn := fun x => scope.names.lookup x == some .cell, pn := [], xe := fun _ _ => False }
section
variable {X : Cx} {pins : List (Addr × Obj)} {σ : St} {H : Hp} {s : Shared}
theorem block_start {scope : Scope} {own : List (Str × Nat)} {fp : List Addr} (I : Inv X pins σ H s) (ok : BlkOk X.N X.env.scope scope own) (hN : X.N.Nodup) (hfp : ∀ b ∈ fp, FpOk X pins H b ∧ b < s.heap.objs.size) :
    Inv (X.blk s H scope (compEnvC scope (cellsFrom (s.heap.objs.size + 1) scope.names (cloFrom X.env.cells scope.names [])) s.heap.objs.size X.env) fp) [] (wipe σ (own.map (·.2))) H { s with heap := pushCells (s.heap.push { cls := .type "dict", data := .dict #[] }) scope.names } := by
  have hfree : ∀ y ∈ scope.names, y.2 = .free → ∃ c, X.env.cells.lookup y.1 = some c := fun y hy e => by
    rcases ok.free y hy e with k | k
    · exact I.ok.has _ (.inl k)
    · exact I.ok.has _ (.inr k)
  generalize hcenv : compEnvC scope (cellsFrom (s.heap.objs.size + 1) scope.names (cloFrom X.env.cells scope.names [])) s.heap.objs.size X.env = cenv
  have kp : ∀ b o, s.heap.get? b = some o → (pushCells (s.heap.push { cls := .type "dict", data := .dict #[] }) scope.names).get? b = some o := fun b o e => pushCells_keeps _ _ _ _ (Heap.get?_push_of_some _ e)
  have hL : cenv.locals = s.heap.objs.size := by rw [← hcenv]; rfl
  have hcl : cenv.cells = cellsFrom (s.heap.objs.size + 1) scope.names (cloFrom X.env.cells scope.names []) := by rw [← hcenv]; rfl
  have hsc : cenv.scope = relS scope X.env.scope := by rw [← hcenv]; rfl
  rw [← Heap.size_push s.heap { cls := .type "dict", data := .dict #[] }] at hcl
  have cm : ∀ {y c}, (y, c) ∈ cloFrom X.env.cells scope.names [] → X.env.cells.lookup y = some c ∧ c < s.heap.objs.size := fun {y c} hm => by
    rcases cloFrom_mem hm with hm | ⟨h1, rfl⟩
    · cases hm
    · obtain ⟨c, hc⟩ := hfree _ h1 rfl
      rw [hc]
      obtain ⟨w, z⟩ := I.cell _ _ hc
      exact ⟨rfl, z.lt⟩
  have mem : ∀ {y c}, cenv.cells.lookup y = some c → (X.env.cells.lookup y = some c ∧ c < s.heap.objs.size) ∨ (s.heap.objs.size + 1 ≤ c ∧ CellAt (pushCells (s.heap.push { cls := .type "dict", data := .dict #[] }) scope.names) c none) := fun {y c} e => by
    rw [hcl] at e
    rcases cells_mem (PySem.mem_of_lookup e) with hm | ⟨_, h2, h3⟩
    · exact .inl (cm hm)
    · rw [Heap.size_push] at h2; exact .inr ⟨h2, h3⟩
  have look : ∀ {y}, scope.names.lookup y = some .free → ∃ c, cenv.cells.lookup y = some c ∧ X.env.cells.lookup y = some c := fun {y} hl => by
    have hy : (y, NameKind.free) ∈ scope.names := PySem.mem_of_lookup hl
    obtain ⟨c', e'⟩ := mem_lookup (cells_acc (names := scope.names) (n := (s.heap.push { cls := .type "dict", data := .dict #[] }).objs.size) (cloFrom_has (cells := X.env.cells) (acc := []) hy))
    rw [← hcl] at e'
    refine ⟨c', e', ?_⟩
    rw [hcl] at e'
    rcases cells_mem (PySem.mem_of_lookup e') with hm | ⟨h1, _, _⟩
    · exact (cm hm).1
    · have := ok.uniq _ h1
      rw [hl] at this; cases this
  have okB : (X.blk s H scope cenv fp).Ok := by
    refine ⟨I.ok.mod, by show cenv.scope.kind = _; rw [hsc]; exact ok.kind, by show cenv.globals = _; rw [← hcenv]; exact I.ok.glob, by show cenv.builtins = _; rw [← hcenv]; exact I.ok.blt, by show s.heap.objs.size ≤ cenv.locals; rw [hL]; exact Nat.le_refl _,
      fun y z c e1 e2 => ?_, fun y hy => ?_, fun y c z e => ?_, I.ok.hd, I.ok.frames, .inl rfl, fun b hb => ⟨?_, fun y c e z => ?_⟩, I.bs, Nat.le_trans I.ok.bsz I.sz, fun b o e hb => ?_, fun b hb z => ?_, I.stack, I.stkFree⟩
    · have e1 : cenv.cells.lookup y = some c := e1
      have e2 : cenv.cells.lookup z = some c := e2
      rw [hcl] at e1 e2
      refine cells_inj (fun p hp => ?_) (fun y z c a b => I.ok.inj y z c (cm a).1 (cm b).1) (PySem.mem_of_lookup e1) (PySem.mem_of_lookup e2)
      rw [Heap.size_push]
      exact Nat.lt_succ_of_lt (cm (y := p.1) (c := p.2) hp).2
    · show ∃ c, cenv.cells.lookup y = some c
      have key : ∀ k, cenv.kindOf y = some k → (k = .cell ∨ k = .free) → ∃ c, cenv.cells.lookup y = some c := fun k hk hk' => by
        unfold Env.kindOf at hk
        rw [hsc] at hk
        obtain ⟨k', e, r⟩ := lookup_relS hk
        have : k' = .cell ∨ k' = .free := by
          rcases r with rfl | ⟨rfl, _⟩
          · exact hk'
          · exact .inr rfl
        rcases this with rfl | rfl
        · obtain ⟨c, hm⟩ := cells_has (n := (s.heap.push { cls := .type "dict", data := .dict #[] }).objs.size) (acc := cloFrom X.env.cells scope.names []) (PySem.mem_of_lookup e)
          obtain ⟨c', e'⟩ := mem_lookup hm
          exact ⟨c', by rw [hcl]; exact e'⟩
        · obtain ⟨c, h1, _⟩ := look e
          exact ⟨c, h1⟩
      rcases hy with hy | hy
      · exact key _ hy (.inl rfl)
      · exact key _ hy (.inr rfl)
    · have z : (scope.names.lookup y == some NameKind.cell) = true := z
      have z : scope.names.lookup y = some .cell := by simpa using z
      have e : cenv.cells.lookup y = some c := e
      rw [hcl] at e
      rcases cells_mem (PySem.mem_of_lookup e) with hm | ⟨_, h2, _⟩
      · rcases cloFrom_mem hm with hm | ⟨h1, _⟩
        · cases hm
        · have q := ok.uniq _ h1
          rw [z] at q; cases q
      · rw [Heap.size_push] at h2
        exact Nat.le_of_succ_le h2
    · show b ≠ cenv.locals
      rw [hL]; exact Nat.ne_of_lt (hfp b hb).2
    · have e : cenv.cells.lookup y = some c := e
      rcases mem e with ⟨h1, _⟩ | ⟨h1, _⟩
      · exact (hfp b hb).1.2.2.2.2.1 y c h1 z
      · have h2 : s.heap.objs.size + 1 ≤ b := by rw [← z]; exact h1
        exact absurd (Nat.lt_of_lt_of_le (hfp b hb).2 (Nat.le_of_succ_le h2)) (Nat.lt_irrefl _)
    · rcases (hfp b hb).1.2.2.2.1 with z | z
      · exact I.ok.noex b o e z
      · exact absurd (Nat.lt_of_lt_of_le (Heap.lt_size e) (Nat.le_trans I.ok.bsz z)) (Nat.lt_irrefl _)
    · rcases List.mem_cons.mp (I.stkSub b z) with z | z
      · exact (hfp b hb).1.2.1 z
      · exact (hfp b hb).1.2.2.1 z
  refine ⟨okB, rfl, I.bare, Un.kept kp, ⟨fun _ => none, ?_, fun i y av e1 e2 e3 => ?_⟩, fun y c e => ?_, ?_, fun y c e => ?_, fun p hp => ?_, I.hok.kept kp, by rw [wipe_length]; exact I.len⟩
  · show Heap.Ns _ cenv.locals _
    rw [hL]
    exact Heap.Ns.keeps (Heap.Ns.new ..) fun b o e => pushCells_keeps _ _ _ _ e
  · obtain ⟨e2, hne⟩ := wipe_some e2
    have hfr : scope.names.lookup y = some .free ∧ (cenv.kindOf y = some .cell ∨ cenv.kindOf y = some .free) := by
      have key : ∀ k, cenv.scope.names.lookup y = some k → k = .local ∨ k = .cell ∨ k = .free → scope.names.lookup y = some .free ∧ (cenv.kindOf y = some .cell ∨ cenv.kindOf y = some .free) := fun k hk hk' => by
        have hk0 := hk
        rw [hsc] at hk
        obtain ⟨k', e, r⟩ := lookup_relS hk
        have no : ¬ (k' = .local ∨ k' = .cell) := fun hh => by
          rcases ok.own _ (PySem.mem_of_lookup e) hh with e' | e'
          · obtain ⟨p, hp, hpy⟩ := List.mem_map.mp e'
            have e3 := ok.ix p hp
            have : p.1 = y := hpy
            rw [this] at e3
            exact hne (List.mem_map.mpr ⟨p, hp, nodup_ix hN e3 e1⟩)
          · exact e' (List.mem_of_getElem? e1)
        rcases r with rfl | ⟨rfl, rfl⟩
        · rcases hk' with rfl | rfl | rfl
          · exact absurd (.inl rfl) no
          · exact absurd (.inr rfl) no
          · exact ⟨e, .inr hk0⟩
        · exact ⟨e, .inl hk0⟩
      have e3 : Vis cenv.scope y := e3
      rcases e3 with e3 | e3 | e3
      · exact key _ e3 (.inl rfl)
      · exact key _ e3 (.inr (.inl rfl))
      · exact key _ e3 (.inr (.inr rfl))
    obtain ⟨m, hn, hl⟩ := I.loc
    have hvis : Vis X.env.scope y := (ok.free _ (PySem.mem_of_lookup hfr.1) rfl).elim (fun k => .inr (.inl k)) (fun k => .inr (.inr k))
    obtain ⟨w, r, q⟩ := hl i y av e1 e2 hvis
    refine ⟨w, r, .inr ⟨hfr.2, ?_⟩⟩
    obtain ⟨c, h1, h2⟩ := look hfr.1
    rcases q with ⟨k, _⟩ | ⟨_, c', e', z⟩
    · have k : X.env.scope.names.lookup y = some .local := k
      rcases ok.free _ (PySem.mem_of_lookup hfr.1) rfl with k' | k' <;> rw [show X.env.scope.names.lookup y = _ from k'] at k <;> cases k
    · rw [h2] at e'; cases e'
      exact ⟨c, h1, z.keeps kp⟩
  · have e : cenv.cells.lookup y = some c := e
    rcases mem e with ⟨h1, _⟩ | ⟨_, z⟩
    · obtain ⟨w, z⟩ := I.cell y c h1
      exact ⟨w, z.keeps kp⟩
    · exact ⟨_, z⟩
  · show H cenv.locals = none
    rw [hL]; exact I.hok.fresh (Nat.le_refl _)
  · have e : cenv.cells.lookup y = some c := e
    rcases mem e with ⟨h1, _⟩ | ⟨h1, _⟩
    · exact I.freeC y c h1
    · exact I.hok.fresh (Nat.le_of_succ_le h1)
  · exact absurd (show p ∈ ([] : List (Addr × Obj)) ++ [] from hp) (by simp)

/-- an item appended to a tracked list -/
theorem app_ok {E : Value → Shared → Prop} {D : Addr} {xs : List V} {y : V} {v : Value} {Q : Value → Shared → Prop} (I : Inv X pins σ H s) (hD : H D = some (.lst xs)) (hz : xs.length < sizeLine) (r : RelV y v)
    (h : ∀ s', Inv X pins σ (upd H D (.lst (xs ++ [y]))) s' → Q .none s') : wpAny (model X.prog X.w) X.A (call (.builtin "list.append") [.ref D, v]) Q E s := by
  obtain ⟨hz', its, n, ri, e⟩ := I.hok D _ hD
  have hl := ri.length
  refine append_at (hsz := by rw [List.size_toArray]; omega) e fun h' sb ho' => ?_
  refine h { s with heap := h' } (I.write (t' := s.toks) (by rw [hD]; trivial) (.inl rfl) (fun b u hb q => (sb.2 b hb).trans q) ⟨_, ho'⟩ ⟨by rw [List.length_append]; exact hz, its ++ [v], n + 1, ri.append (.cons r .nil), ?_⟩)
  rw [ho']
  simp

/-- a clause's tests -/
def PTs (X : Cx) (ifs : List Expr) (t : TT) : Prop :=
  ∀ (pins : List (Addr × Obj)) (s : Shared) (σ : St) (H : Hp) (Q : Bool → Hp → Prop), Inv X pins σ H s → t σ H Q →
    wpAny (model X.prog X.w) X.A (forIn ifs true fun c r => if r = true then do let ok ← isTrue c X.env (eval c X.env); pure (ForInStep.yield ok) else pure (ForInStep.yield r)) (TP X pins σ Q) X.xe s
def tYes : TT := fun _ H Q => Q true H
theorem pts_nil : PTs X [] tYes := fun _ _ _ H _ I h => wpAny_tests_nil ⟨H, I, h⟩
theorem pts_one {c : Expr} {t : TT} (h : PT X c t) : PTs X [c] t := fun pins s σ H Q I hw => wpAny_tests_one (h pins s σ H Q I hw)
end

theorem thnF {α : Type} {t : Sem α} {Q Q' : α → Shared → Prop} {M : Model} {A : Around} {E : Value → Shared → Prop} {s : Shared} (h : wpAny M A t Q (fun _ _ => False) s) (hQ : ∀ a s, Q a s → Q' a s) : wpAny M A t Q' E s := wpAny_mono h hQ fun _ _ z => False.elim z

/-- the loop of a list comprehension's block, the target of any form (codeAny_compLoop_tests asks a target that no tuple goes to; statement and proof follow it, PyProof/CompMap.lean:41-61, with the step letOwnedTupleGo kept) -/
theorem compLoop_any {prog : Program} {w : World} {A : Around} {R : Result → Shared → Prop} {s : Shared} {elt target iter : Expr} {ifs : List Expr} {scope : Scope} {pos : Pos} {it acc : Value} {env : Env} (I : Nat → Shared → Prop)
    (turn : ∀ n s, I n s → wpAny (model prog w) A (pyNext it) (fun r s₁ => match r with
      | none => R (.ok .next) s₁
      | some v => wpAny (model prog w) A (letOwnedTupleGo target it v) (fun _ s₁' => wpAny (model prog w) A (assign target env v) (fun _ s₂ =>
          wpAny (model prog w) A (forIn ifs true fun c r => if r = true then do let ok ← isTrue c env (eval c env); pure (ForInStep.yield ok) else pure (ForInStep.yield r)) (fun ok s₃ =>
            if ok = true then wpAny (model prog w) A (eval elt env) (fun x s₄ =>
              wpAny (model prog w) A (call (.builtin "list.append") [acc, x]) (fun _ s₅ => ∃ m, m < n ∧ I m s₅) (notedBy (model prog w) A env fun e s' => R (.error e) s') s₄) (notedBy (model prog w) A env fun e s' => R (.error e) s') s₃
            else ∃ m, m < n ∧ I m s₃) (notedBy (model prog w) A env fun e s' => R (.error e) s') s₂) (notedBy (model prog w) A env fun e s' => R (.error e) s') s₁') (notedBy (model prog w) A env fun e s' => R (.error e) s') s₁) (notedBy (model prog w) A env fun e s' => R (.error e) s') s)
    (n : Nat) (h : I n s) :
    codeAny (model prog w) A (.compLoop (.ListComp elt [⟨target, iter, ifs, 0⟩] scope pos) 0 it acc env) R s := by
  refine codeAny_loop rfl I (fun n s hI => ?_) n h
  show wpAny _ A ((compTurn (.ListComp elt [⟨target, iter, ifs, 0⟩] scope pos) 0 it acc env).onRaise (fun x => do noteFrame x env; theTreesLotGoes x)) _ _ s
  refine wpAny_noted ?_
  rw [compTurn_list]
  refine wpAny_bind (wpAny_standAt (wpAny_bind (wpAny_mono (turn n s hI) (fun r s₁ h₁ => ?_) fun _ _ h' => h')))
  cases r with
  | none => exact wpAny_pure h₁
  | some v =>
    refine wpAny_bind (wpAny_mono h₁ (fun _ s₁' h₁' => ?_) fun _ _ h' => h')
    refine wpAny_bind (wpAny_mono h₁' (fun _ s₂ h₂ => wpAny_bind (wpAny_mono h₂ (fun ok s₃ h₃ => ?_) fun _ _ h' => h')) fun _ _ h' => h')
    cases ok with
    | false => exact wpAny_pure ⟨rfl, h₃⟩
    | true =>
      exact wpAny_bind (wpAny_bind (wpAny_mono h₃ (fun x s₄ h₄ => wpAny_bind (wpAny_mono h₄ (fun _ s₅ h₅ => wpAny_pure (wpAny_pure ⟨rfl, h₅⟩)) fun _ _ h' => h')) fun _ _ h' => h'))

section
variable {X : Cx}
/-- [elt for target in iter if ..]: D the new list; W by the turn and a measure, Nx what a turn is to reach -/
def tLc (wi : TI) (g : TG) (tt : TT) (te : TE) (vs : List Nat) : TE := fun σ H Q => wi σ H fun J H1 => ∀ D, H1 D = none → ∃ W : Nat → Nat → Hp → Prop, (∃ m, W 0 m (upd H1 D (.lst []))) ∧ ∀ i m H, W i m H →
  (J.stop i H ∧ Q (.ref D) H) ∨ (J.go i H ∧ ∃ Nx : Hp → Prop, (∀ H', Nx H' → ∃ m', m' < m ∧ W (i + 1) m' H') ∧ ∀ x H', J.yld i H x H' → g x (wipe σ vs) H' fun σ2 H2 => wipe σ2 vs = wipe σ vs ∧ tt σ2 H2 fun b H3 =>
    if b = true then te σ2 H3 fun y H4 => ∃ acc, H4 D = some (.lst acc) ∧ acc.length < sizeLine ∧ Nx (upd H4 D (.lst (acc ++ [y]))) else Nx H3)
theorem lc_core {pins : List (Addr × Obj)} {s : Shared} {σ : St} {H : Hp} {Q : VK} {elt tg iter : Expr} {ifs : List Expr} {scope : Scope} {own : List (Str × Nat)} {pos pos' : Pos} {wi : TI} {g : TG} {tt : TT} {te : TE} {use : Option (Value → Sem Unit)} {Qf : Value → Shared → Prop}
    (hc : X.calm = true) (hN : X.N.Nodup) (I : Inv X pins σ H s) (hi : PI X tg iter wi) (ok : BlkOk X.N X.env.scope scope own)
    (hg : ∀ (s : Shared) (H : Hp) (C : Addr) (cl : List (Str × Addr)) (fp : List Addr), PG (X.blk s H scope (compEnvC scope cl C X.env) fp) tg g) (ht : ∀ (s : Shared) (H : Hp) (C : Addr) (cl : List (Str × Addr)) (fp : List Addr), PTs (X.blk s H scope (compEnvC scope cl C X.env) fp) ifs tt)
    (he : ∀ (s : Shared) (H : Hp) (C : Addr) (cl : List (Str × Addr)) (fp : List Addr), PE (X.blk s H scope (compEnvC scope cl C X.env) fp) elt te) (hs : ∀ x, foldedSetIterable iter X.env x = pure x)
    (h : tLc wi g tt te (own.map (·.2)) σ H Q)
    (hRR : ∀ D C s' m H', Inv X pins σ H' s' → Q (.ref D) H' → s'.heap.Ns C m → FpOk X pins H' C → compPost (model X.prog X.w) X.A X.xe use Qf (.ref D) C (.ok .next) s') :
    wpAny (model X.prog X.w) X.A (comprehension (.ListComp elt [⟨tg, iter, ifs, 0⟩] scope pos) scope X.env pos' (newList []) false (eval iter X.env) use) Qf X.xe s := by
  have hfree : ∀ y ∈ scope.names, y.2 = .free → ∃ c, X.env.cells.lookup y.1 = some c := fun y hy e => by
    rcases ok.free y hy e with k | k
    · exact I.ok.has _ (.inl k)
    · exact I.ok.has _ (.inr k)
  refine wpAny_comprehension_free (use := use) rfl hs (closure_ok hfree) ok.kind (fun y hy e => by rw [ok.uniq y hy, e])
    (thn (hi pins s σ H _ I h) fun xv s1 hx => thn hx fun itv s2 h2 => ?_)
  obtain ⟨it, fp, tn, J, H2, e, I2, T, st2, f2, q⟩ := h2
  subst e
  refine wpAny_newObj_type (newEnv_comp ?_) (by show 0 ≤ sizeLine; decide)
  generalize hD : s2.heap.objs.size = D
  have hDn : H2 D = none := I2.hok.fresh (Nat.le_of_eq hD)
  obtain ⟨W, ⟨m0, w0⟩, turn⟩ := q D hDn
  -- the new list
  generalize hs3 : ({ s2 with heap := s2.heap.push { cls := .type "list", data := .seq ([] : List Value).toArray } } : Shared) = s3
  have I3 : Inv X pins σ (upd H2 D (.lst [])) s3 := by
    rw [← hs3]
    refine I2.laid (t' := s2.toks) (fun b o e => Heap.get?_push_of_some _ e) (Nat.le_of_eq hD) ⟨Nat.zero_le _, [], 0, .nil, ?_⟩
    rw [← hD]
    exact Heap.get?_push_size _ rfl
  have h3 : s3.heap = s2.heap.push { cls := .type "list", data := .seq ([] : List Value).toArray } := by rw [← hs3]
  have sz : ∀ b ∈ fp, b < s2.heap.objs.size := fun b hb => by
    obtain ⟨o, e, _⟩ := T.obj _ _ st2 b hb
    exact Heap.lt_size e
  have f3 : ∀ b ∈ fp, FpOk X pins (upd H2 D (.lst [])) b ∧ b < s3.heap.objs.size := fun b hb => by
    have hlt := sz b hb
    refine ⟨⟨?_, (f2 b hb).2⟩, by rw [h3, Heap.size_push]; exact Nat.lt_succ_of_lt hlt⟩
    rw [upd_ne (by rw [← hD]; exact Nat.ne_of_lt hlt)]
    exact (f2 b hb).1
  have st3 : tn 0 s3.heap := T.keep _ _ _ st2 fun b _ o e => by rw [h3]; exact Heap.get?_push_of_some _ e
  have I4 := block_start I3 ok hN f3
  have pg := hg s3 (upd H2 D (.lst [])) s3.heap.objs.size (cellsFrom (s3.heap.objs.size + 1) scope.names (cloFrom X.env.cells scope.names [])) fp
  have pt := ht s3 (upd H2 D (.lst [])) s3.heap.objs.size (cellsFrom (s3.heap.objs.size + 1) scope.names (cloFrom X.env.cells scope.names [])) fp
  have pe := he s3 (upd H2 D (.lst [])) s3.heap.objs.size (cellsFrom (s3.heap.objs.size + 1) scope.names (cloFrom X.env.cells scope.names [])) fp
  show codeAny _ _ (.compStart (.ListComp elt [⟨tg, iter, ifs, 0⟩] scope pos) 0 (.ref it) (.ref D) (compEnvC scope (cellsFrom (s3.heap.objs.size + 1) scope.names (cloFrom X.env.cells scope.names [])) s3.heap.objs.size X.env)) (compPost (model X.prog X.w) X.A X.xe use Qf (.ref D) s3.heap.objs.size) { s3 with heap := pushCells (s3.heap.push { cls := .type "dict", data := .dict #[] }) scope.names }
  have nfp : ∀ b ∈ fp, (upd H2 D (.lst [])) b = none := fun b hb => (f3 b hb).1.1
  generalize hce : compEnvC scope (cellsFrom (s3.heap.objs.size + 1) scope.names (cloFrom X.env.cells scope.names [])) s3.heap.objs.size X.env = ce at I4 pg pt pe ⊢
  have cL : ce.locals = s3.heap.objs.size := by subst hce; rfl
  generalize hH3 : upd H2 D (.lst []) = H3 at I3 I4 pg pt pe w0 nfp f3
  generalize hs4 : ({ s3 with heap := pushCells (s3.heap.push { cls := .type "dict", data := .dict #[] }) scope.names } : Shared) = s4 at I4 ⊢
  have st4 : tn 0 s4.heap := T.keep _ _ _ st3 fun b _ o e => by rw [← hs4]; exact pushCells_keeps _ _ _ _ (Heap.get?_push_of_some _ e)
  have stat : ∀ {σ' : St} {H' : Hp} {s' : Shared}, Inv (X.blk s3 H3 scope ce fp) [] σ' H' s' → (∀ b ∈ fp, H' b = none) → ∀ b ∈ fp, FpOk (X.blk s3 H3 scope ce fp) [] H' b := fun {σ' H' s'} I' hn b hb =>
    ⟨hn b hb, (I'.ok.exf b hb).1, I'.ok.exfs b hb, .inl hb, fun x c e => (I'.ok.exf b hb).2 x c e, fun p hp => absurd (show p ∈ ([] : List (Addr × Obj)) ++ [] from hp) (by simp)⟩
  have loop : codeAny (model X.prog X.w) X.A (.compLoop (.ListComp elt [⟨tg, iter, ifs, 0⟩] scope pos) 0 (.ref it) (.ref D) ce) (compPost (model X.prog X.w) X.A X.xe use Qf (.ref D) s3.heap.objs.size) s4 := by
    refine compLoop_any (fun n s' => ∃ i H', Inv (X.blk s3 H3 scope ce fp) [] (wipe σ (own.map (·.2))) H' s' ∧ tn i s'.heap ∧ (∀ b ∈ fp, H' b = none) ∧ W i n H') ?_ m0 ⟨0, H3, I4, st4, nfp, w0⟩
    rintro n s5 ⟨i, H5, I5, st5, n5, w5⟩
    rcases turn i n H5 w5 with ⟨stop, qq⟩ | ⟨go, Nx, hNx, step⟩
    · have td := T.done (X.blk s3 H3 scope ce fp) rfl rfl rfl hc i [] s5 _ H5 (fun _ _ => False) I5 (stat I5 n5) st5 stop
      refine thnF td fun r s6 ⟨hr, I6⟩ => ?_
      subst hr
      -- back in the def's context
      have I7 : Inv X pins σ H5 s6 := I3.call' (ch := fp) I6.os I6.base I6.hok I6.bare fun b hb => ⟨(f3 b hb).1.2.2.2.1, (f3 b hb).1.2.1, (f3 b hb).1.2.2.2.2.1, (f3 b hb).1.2.2.2.2.2⟩
      have nC : H5 s3.heap.objs.size = none := by
        have z : H5 ce.locals = none := I6.free
        rw [cL] at z
        exact z
      obtain ⟨m, hn, _⟩ := I6.loc
      have hn : s6.heap.Ns ce.locals m := hn
      rw [cL] at hn
      exact hRR D s3.heap.objs.size s6 m H5 I7 qq hn (I3.fpOk (Nat.le_refl _) nC)
    · have ti := T.item (X.blk s3 H3 scope ce fp) rfl rfl rfl hc i [] s5 _ H5 (fun _ _ => False) I5 (stat I5 n5) st5 go
      refine thnF ti fun r s6 ⟨u, hr, h6⟩ => ?_
      subst hr
      refine thnF h6 fun _ s7 ⟨x, H7, I7, r7, y7, st7, n7⟩ => ?_
      have I7' := I7.pinned (stat I7 n7) (T.obj _ _ st7)
      refine thnF (pg _ s7 _ H7 x u _ I7' r7 (step x H7 y7)) fun _ s8 ⟨σ8, H8, I8, hw8, q8⟩ => ?_
      refine thnF (pt _ s8 σ8 H8 _ I8 q8) fun b s9 ⟨H9, I9, q9⟩ => ?_
      -- the turn's end
      have fin : ∀ {s' : Shared} {H' : Hp}, Inv (X.blk s3 H3 scope ce fp) ([] ++ pinsAt fp s7.heap) σ8 H' s' → Nx H' → ∃ m, m < n ∧ ∃ i H', Inv (X.blk s3 H3 scope ce fp) [] (wipe σ (own.map (·.2))) H' s' ∧ tn i s'.heap ∧ (∀ b ∈ fp, H' b = none) ∧ W i m H' := fun {s' H'} I' nx => by
        obtain ⟨m', hm, w'⟩ := hNx H' nx
        have pin' : ∀ b ∈ fp, ∀ o, s7.heap.get? b = some o → s'.heap.get? b = some o ∧ H' b = none := fun b hb o e =>
          let z := I'.pin (b, o) (List.mem_append_right _ (List.mem_append_right _ (mem_pinsAt hb e)))
          ⟨z.1, z.2.1⟩
        have hl : (wipe σ (own.map (·.2))).length = σ8.length := by rw [← hw8, wipe_length]
        refine ⟨m', hm, i + 1, H', (I'.unpinned (pins := [])).weak hl (fun j v e => ?_), T.keep _ _ _ st7 fun b hb o e => (pin' b hb o e).1, fun b hb => ?_, w'⟩
        · rw [← hw8] at e
          exact (wipe_some e).1
        · obtain ⟨o, e, _⟩ := T.obj _ _ st7 b hb
          exact (pin' b hb o e).2
      cases b with
      | false =>
        simp only [Bool.false_eq_true, if_false] at q9 ⊢
        exact fin I9 q9
      | true =>
        simp only [if_true] at q9 ⊢
        refine thnF (pe _ s9 σ8 H9 _ I9 q9) fun z s10 ⟨yv, H10, I10, r10, acc, hD10, hz10, nx⟩ => ?_
        exact app_ok (X := X.blk s3 H3 scope ce fp) I10 hD10 hz10 r10 fun s11 I11 => fin I11 nx
  exact codeAny_compStart_list loop (T.self X.A 0 _ _ _ st4 loop)
/-- as a value -/
theorem pe_lc {elt tg iter : Expr} {ifs : List Expr} {scope : Scope} {own : List (Str × Nat)} {pos : Pos} {wi : TI} {g : TG} {tt : TT} {te : TE} (hc : X.calm = true) (hN : X.N.Nodup) (hi : PI X tg iter wi) (ok : BlkOk X.N X.env.scope scope own)
    (hg : ∀ (s : Shared) (H : Hp) (C : Addr) (cl : List (Str × Addr)) (fp : List Addr), PG (X.blk s H scope (compEnvC scope cl C X.env) fp) tg g) (ht : ∀ (s : Shared) (H : Hp) (C : Addr) (cl : List (Str × Addr)) (fp : List Addr), PTs (X.blk s H scope (compEnvC scope cl C X.env) fp) ifs tt)
    (he : ∀ (s : Shared) (H : Hp) (C : Addr) (cl : List (Str × Addr)) (fp : List Addr), PE (X.blk s H scope (compEnvC scope cl C X.env) fp) elt te) (hs : ∀ x, foldedSetIterable iter X.env x = pure x := by intro _; rfl) :
    PE X (.ListComp elt [⟨tg, iter, ifs, 0⟩] scope pos) (tLc wi g tt te (own.map (·.2))) := by
  intro pins s σ H Q I h
  rw [eval_ListComp]
  refine lc_core hc hN I hi ok hg ht he hs h fun D C s' m H' I' q hn f => ⟨m, hn, fun h'' sb => ?_⟩
  obtain ⟨f0, f1, f2, f3, f4, f5⟩ := f
  exact ⟨.ref D, H', I'.turned (t' := s'.toks) (fun b o hb e => (sb.2 b hb).trans e) f0 f1 f3 f4 f5, rfl, q⟩
/-- name = [..] on one line, the name a local -/
theorem ps_setLc {i : Nat} {y : Str} {py : Pos} {elt tg iter : Expr} {ifs : List Expr} {scope : Scope} {own : List (Str × Nat)} {pos spos : Pos} {wi : TI} {g : TG} {tt : TT} {te : TE} (hc : X.calm = true) (hN : X.N.Nodup) (hy : X.N[i]? = some y) (hyl : X.env.scope.names.lookup y = some .local)
    (hsw : swapsWith (.ListComp elt [⟨tg, iter, ifs, 0⟩] scope pos) (some (.Name y py)) spos.line X.env = pure true) (hi : PI X tg iter wi) (ok : BlkOk X.N X.env.scope scope own)
    (hg : ∀ (s : Shared) (H : Hp) (C : Addr) (cl : List (Str × Addr)) (fp : List Addr), PG (X.blk s H scope (compEnvC scope cl C X.env) fp) tg g) (ht : ∀ (s : Shared) (H : Hp) (C : Addr) (cl : List (Str × Addr)) (fp : List Addr), PTs (X.blk s H scope (compEnvC scope cl C X.env) fp) ifs tt)
    (he : ∀ (s : Shared) (H : Hp) (C : Addr) (cl : List (Str × Addr)) (fp : List Addr), PE (X.blk s H scope (compEnvC scope cl C X.env) fp) elt te) (hs : ∀ x, foldedSetIterable iter X.env x = pure x := by intro _; rfl) :
    PS X (.Assign [.Name y py] (.ListComp elt [⟨tg, iter, ifs, 0⟩] scope pos) spos) (tAsg (tLc wi g tt te (own.map (·.2))) (gName i)) := by
  intro pins s σ H D I h
  rw [exec_Assign_Name_used _ _ _ _ hsw]
  refine wpAny_bind (wpAny_standAt (wpAny_bind ?_))
  show wpAny _ X.A (do let _ ← comprehension (.ListComp elt [⟨tg, iter, ifs, 0⟩] scope pos) scope X.env (firstIterPos [⟨tg, iter, ifs, 0⟩] pos) (newList []) false (eval iter X.env) (some (assign (.Name y py) X.env))) _ _ s
  have h : tLc wi g tt te (own.map (·.2)) σ H (fun x H1 => gName i x σ H1 D.nx) := h
  refine wpAny_bind (thn (lc_core (Qf := fun _ s' => SP X pins D .next s') hc hN I hi ok hg ht he hs h fun L C s' m H' I' q hn f => ?_) fun _ s' hq => wpAny_pure (wpAny_pure hq))
  show wpAny _ _ (assign (.Name y py) X.env (.ref L)) _ _ _
  refine wpAny_assign_Name (store_ok2 (v := V.ref L) I' hN hy (.inl hyl) rfl (fun s2 I2 ⟨a, sb, ha⟩ => ?_) (.inr hyl))
  obtain ⟨f0, f1, f2, f3, f4, f5⟩ := f
  have haC : C ≠ a := by
    rcases ha with z | z
    · rw [z]; exact f1
    · exact fun e => f4 y a z e.symm
  refine ⟨m, hn.sameBut sb haC, fun h3 sb3 => ?_⟩
  exact ⟨_, H', I2.turned (t' := s2.toks) (fun b o hb e => (sb3.2 b hb).trans e) f0 f1 f3 f4 f5, q⟩
theorem sw_true {elt : Expr} {gs : List Comprehension} {scope : Scope} {pos py : Pos} {y : Str} {l : Nat} {env : Env} (hk : env.scope.kind = .function) (hy : env.scope.names.lookup y = some .local) (hl : (py.line == pos.line) = true)
    (ha : (scope.names.any fun (n, k) => n == y && (k == .local || k == .cell)) = false) : swapsWith (.ListComp elt gs scope pos) (some (.Name y py)) l env = pure true := by
  have ky : env.kindOf y = some .local := hy
  have hb : env.blockKind = .function := by unfold Env.blockKind; rw [hk]; rfl
  unfold swapsWith
  simp only [hb, ky, ha, Expr.pos, hl]
  rfl
end

/-! ### the forms one uses -/
/-- over a range: Pv by the turn and the heap (the new list at D within) -/
theorem lc_range {lo : Int} {n : Nat} {g : TG} {tt : TT} {te : TE} {vs : List Nat} {σ : St} {H1 : Hp} {D : Addr} {Qd : Hp → Prop} (Pv : Nat → Hp → Prop) (h0 : Pv 0 (upd H1 D (.lst [])))
    (hs : ∀ i H, i < n → Pv i H → g (.int (lo + i)) (wipe σ vs) H fun σ2 H2 => wipe σ2 vs = wipe σ vs ∧ tt σ2 H2 fun b H3 =>
      if b = true then te σ2 H3 fun y H4 => ∃ acc, H4 D = some (.lst acc) ∧ acc.length < sizeLine ∧ Pv (i + 1) (upd H4 D (.lst (acc ++ [y]))) else Pv (i + 1) H3) (hd : ∀ H, Pv n H → Qd H) :
    ∃ W : Nat → Nat → Hp → Prop, (∃ m, W 0 m (upd H1 D (.lst []))) ∧ ∀ i m H, W i m H →
      ((Itr lo n).stop i H ∧ Qd H) ∨ ((Itr lo n).go i H ∧ ∃ Nx : Hp → Prop, (∀ H', Nx H' → ∃ m', m' < m ∧ W (i + 1) m' H') ∧ ∀ x H', (Itr lo n).yld i H x H' → g x (wipe σ vs) H' fun σ2 H2 => wipe σ2 vs = wipe σ vs ∧ tt σ2 H2 fun b H3 =>
        if b = true then te σ2 H3 fun y H4 => ∃ acc, H4 D = some (.lst acc) ∧ acc.length < sizeLine ∧ Nx (upd H4 D (.lst (acc ++ [y]))) else Nx H3) := by
  refine ⟨fun i m H => m = n - i ∧ i ≤ n ∧ Pv i H, ⟨n, by simp, Nat.zero_le _, h0⟩, ?_⟩
  rintro i m H ⟨rfl, hi, p⟩
  by_cases hlt : i < n
  · refine .inr ⟨hlt, Pv (i + 1), fun H' p' => ⟨n - (i + 1), by omega, rfl, hlt, p'⟩, fun x H' y => ?_⟩
    obtain ⟨e, y⟩ := y
    subst e y
    exact hs i _ hlt p
  · have e : i = n := by omega
    subst e
    exact .inl ⟨Nat.le_refl _, hd H p⟩
/-- over a list that the block leaves as it is -/
theorem lc_list {K : PySem.W.Frag} {a : Addr} {xs : List V} {g : TG} {tt : TT} {te : TE} {vs : List Nat} {σ : St} {H1 : Hp} {D : Addr} {Qd : Hp → Prop} (Pv : Nat → Hp → Prop) (h0 : Pv 0 (upd H1 D (.lst []))) (hl : ∀ i H, i ≤ xs.length → Pv i H → SqL K H a xs)
    (hs : ∀ i x H, xs[i]? = some x → Pv i H → g x (wipe σ vs) H fun σ2 H2 => wipe σ2 vs = wipe σ vs ∧ tt σ2 H2 fun b H3 =>
      if b = true then te σ2 H3 fun y H4 => ∃ acc, H4 D = some (.lst acc) ∧ acc.length < sizeLine ∧ Pv (i + 1) (upd H4 D (.lst (acc ++ [y]))) else Pv (i + 1) H3) (hd : ∀ H, Pv xs.length H → Qd H) :
    ∃ W : Nat → Nat → Hp → Prop, (∃ m, W 0 m (upd H1 D (.lst []))) ∧ ∀ i m H, W i m H →
      ((Itl K a).stop i H ∧ Qd H) ∨ ((Itl K a).go i H ∧ ∃ Nx : Hp → Prop, (∀ H', Nx H' → ∃ m', m' < m ∧ W (i + 1) m' H') ∧ ∀ x H', (Itl K a).yld i H x H' → g x (wipe σ vs) H' fun σ2 H2 => wipe σ2 vs = wipe σ vs ∧ tt σ2 H2 fun b H3 =>
        if b = true then te σ2 H3 fun y H4 => ∃ acc, H4 D = some (.lst acc) ∧ acc.length < sizeLine ∧ Nx (upd H4 D (.lst (acc ++ [y]))) else Nx H3) := by
  refine ⟨fun i m H => m = xs.length - i ∧ i ≤ xs.length ∧ Pv i H, ⟨xs.length, by simp, Nat.zero_le _, h0⟩, ?_⟩
  rintro i m H ⟨rfl, hi, p⟩
  have q := hl i H hi p
  by_cases hlt : i < xs.length
  · refine .inr ⟨⟨xs, xs[i], q, by simp [hlt]⟩, Pv (i + 1), fun H' p' => ⟨xs.length - (i + 1), by omega, rfl, hlt, p'⟩, fun x H' y => ?_⟩
    obtain ⟨e, y⟩ := y
    subst e
    exact hs i x _ (y xs q) p
  · have e : i = xs.length := by omega
    subst e
    exact .inl ⟨⟨xs, q, Nat.le_refl _⟩, hd H p⟩
def blkC (N : List Str) (sc scope : Scope) (own : List (Str × Nat)) : Bool :=
  (match scope.kind with | .function => true | _ => false) && (scope.names.all fun y => decide (scope.names.lookup y.1 = some y.2)) && (own.all fun p => decide (N[p.2]? = some p.1)) &&
    (scope.names.all fun y => match y.2 with
      | .free => (match sc.names.lookup y.1 with | some .cell => true | some .free => true | _ => false)
      | .local => decide (y.1 ∈ own.map (·.1)) || decide (y.1 ∉ N)
      | .cell => decide (y.1 ∈ own.map (·.1)) || decide (y.1 ∉ N)
      | _ => true)
theorem blkOk_by {N : List Str} {sc scope : Scope} {own : List (Str × Nat)} (h : blkC N sc scope own = true) : BlkOk N sc scope own := by
  unfold blkC at h
  simp only [Bool.and_eq_true, List.all_eq_true, decide_eq_true_eq] at h
  obtain ⟨⟨⟨h1, h2⟩, h3⟩, h4⟩ := h
  refine ⟨?_, h2, h3, fun y hy e => ?_, fun y hy e => ?_⟩
  · split at h1
    · assumption
    · cases h1
  · have q := h4 y hy
    simp only [e] at q
    split at q <;> first | exact .inl (by assumption) | exact .inr (by assumption) | cases q
  · have q := h4 y hy
    rcases e with e | e <;> (simp only [e, Bool.or_eq_true, decide_eq_true_eq] at q; exact q)
end L2

namespace L2
open PySem PySem.Spec PyProof.Rows
end L2

namespace L2
open PySem PySem.Spec PyProof.Rows

/-! ### lists of pairs as tables -/
section
variable {κ : Type} [DecidableEq κ]
def valV (kvs : List (κ × V)) (k : κ) : Option V := (kvs.find? fun kv => decide (kv.1 = k)).map (·.2)
/-- in its place, or at the end -/
def putK (kvs : List (κ × V)) (k : κ) (v : V) : List (κ × V) :=
  if (kvs.any fun kv => decide (kv.1 = k)) = true then kvs.map (fun kv => if kv.1 = k then (kv.1, v) else kv) else kvs ++ [(k, v)]
def dropK (kvs : List (κ × V)) (k : κ) : List (κ × V) := kvs.filter fun kv => decide (kv.1 ≠ k)

theorem valV_pos {p : κ × V} {r : List (κ × V)} {k : κ} (e : p.1 = k) : valV (p :: r) k = some p.2 := by simp [valV, List.find?_cons, e]
theorem valV_neg {p : κ × V} {r : List (κ × V)} {k : κ} (e : ¬ p.1 = k) : valV (p :: r) k = valV r k := by simp [valV, List.find?_cons, e]
theorem valV_any (k : κ) : ∀ kvs : List (κ × V), (kvs.any fun kv => decide (kv.1 = k)) = (valV kvs k).isSome
  | [] => rfl
  | p :: r => by
    rw [List.any_cons]
    by_cases e : p.1 = k
    · simp only [valV_pos e, decide_eq_true e, Bool.true_or, Option.isSome_some]
    · rw [valV_neg e, decide_eq_false e, Bool.false_or]; exact valV_any k r
theorem length_putK (kvs : List (κ × V)) (k : κ) (v : V) : (putK kvs k v).length ≤ kvs.length + 1 := by
  unfold putK
  split
  · rw [List.length_map]; omega
  · rw [List.length_append, List.length_cons, List.length_nil]; omega
theorem putK_new {kvs : List (κ × V)} {k : κ} (v : V) (h : valV kvs k = none) : putK kvs k v = kvs ++ [(k, v)] := by
  unfold putK
  rw [valV_any, h]
  exact if_neg (by decide)

theorem RelO.isSome_eq {o : Option V} {u : Option Value} (r : RelO o u) : o.isSome = u.isSome := by
  cases o with
  | none => cases u with
    | none => rfl
    | some _ => exact (show False from r).elim
  | some _ => cases u with
    | none => exact (show False from r).elim
    | some _ => rfl
/-- raw tables of the same keys -/
theorem KV.val {kvs : List (κ × V)} {vs : List (κ × Value)} (r : KV kvs vs) (k : κ) : RelO (valV kvs k) (valueAt vs k) := by
  unfold KV at r
  induction r with
  | nil => exact True.intro
  | @cons p q ps qs h t ih =>
    obtain ⟨h1, h2⟩ := h
    by_cases e : p.1 = k
    · have e' : q.1 = k := h1.symm.trans e
      have b : valueAt (q :: qs) k = some q.2 := by simp [valueAt, List.find?_cons, e']
      rw [valV_pos e, b]; exact h2
    · have e' : ¬ q.1 = k := fun z => e (h1.trans z)
      have b : valueAt (q :: qs) k = valueAt qs k := by simp [valueAt, List.find?_cons, e']
      rw [valV_neg e, b]; exact ih
theorem KV.any {kvs : List (κ × V)} {vs : List (κ × Value)} (r : KV kvs vs) (k : κ) : (kvs.any fun kv => decide (kv.1 = k)) = vs.any fun kv => decide (kv.1 = k) := by
  unfold KV at r
  induction r with
  | nil => rfl
  | cons h t ih => rw [List.any_cons, List.any_cons, ih, h.1]
theorem KV.repl {kvs : List (κ × V)} {vs : List (κ × Value)} (r : KV kvs vs) (k : κ) {y : V} {u : Value} (ry : RelV y u) :
    KV (kvs.map fun kv => if kv.1 = k then (kv.1, y) else kv) (vs.map fun kv => if kv.1 = k then (kv.1, u) else kv) := by
  unfold KV at r ⊢
  induction r with
  | nil => exact .nil
  | @cons p q ps qs h t ih =>
    rw [List.map_cons, List.map_cons]
    refine .cons ?_ ih
    obtain ⟨h1, h2⟩ := h
    by_cases e : p.1 = k
    · rw [if_pos e, if_pos (h1.symm.trans e)]; exact ⟨h1, ry⟩
    · rw [if_neg e, if_neg (fun z => e (h1.trans z))]; exact ⟨h1, h2⟩
theorem KV.put {kvs : List (κ × V)} {vs : List (κ × Value)} (r : KV kvs vs) (k : κ) {y : V} {u : Value} (ry : RelV y u) : KV (putK kvs k y) (stored vs k u) := by
  unfold putK stored
  rw [r.any k]
  by_cases e : (vs.any fun kv => decide (kv.1 = k)) = true
  · rw [if_pos e, if_pos e]; exact r.repl k ry
  · rw [if_neg e, if_neg e]; exact Paired.snoc r ⟨rfl, ry⟩
theorem KV.drop {kvs : List (κ × V)} {vs : List (κ × Value)} (r : KV kvs vs) (k : κ) : KV (dropK kvs k) (without vs k) := by
  unfold KV at r ⊢
  unfold dropK without
  induction r with
  | nil => exact .nil
  | @cons p q ps qs h t ih =>
    obtain ⟨h1, h2⟩ := h
    rw [List.filter_cons, List.filter_cons]
    by_cases e : p.1 = k
    · have a : ¬ decide (p.1 ≠ k) = true := by simp [e]
      have b : ¬ decide (q.1 ≠ k) = true := by simp [h1.symm.trans e]
      rw [if_neg a, if_neg b]; exact ih
    · have e' : ¬ q.1 = k := fun z => e (h1.trans z)
      have a : decide (p.1 ≠ k) = true := by simp [e]
      have b : decide (q.1 ≠ k) = true := by simp [e']
      rw [if_pos a, if_pos b]; exact .cons ⟨h1, h2⟩ ih
theorem KV.length {kvs : List (κ × V)} {vs : List (κ × Value)} (r : KV kvs vs) : kvs.length = vs.length := Paired.length r
theorem dropK_le (kvs : List (κ × V)) (k : κ) : (dropK kvs k).length ≤ kvs.length := List.length_filter_le _ _
end


/-! ### a tracked dict, its keys ints and texts or tuples of these -/
theorem kV_is {P : Program} {w : World} {k : Key} {u : Value} (r : RelV (kV k) u) : (mixKind P w).is k u = true := by
  cases k with
  | inl i => obtain ⟨t, e⟩ := (show ∃ t, u = Value.int i t from r); subst e; exact mixKind_int P w i t
  | inr x => obtain ⟨t, e⟩ := (show ∃ t, u = Value.str x t from r); subst e; exact mixKind_str P w x t
theorem items_are {P : Program} {w : World} : ∀ {ks : List Key} {us : List Value}, Vals (ks.map kV) us → ItemsAre (mixKind P w) ks us
  | [], _, r => by rw [List.map_nil] at r; cases r; exact .nil
  | k :: ks, _, r => by
    rw [List.map_cons] at r
    cases r with
    | cons h t => exact .cons (kV_is h) (items_are t)

/-- raw entries of a dict with tuple keys -/
abbrev KT (H : Hp) : List (List Key × V) → List (List Key × Addr × Value) → Prop := Paired fun p q => p.1 = q.1 ∧ H q.2.1 = some (.tup (p.1.map kV)) ∧ RelV p.2 q.2.2
theorem KT.val {H : Hp} {kvs : List (List Key × V)} {xs : List (List Key × Addr × Value)} (r : KT H kvs xs) (k : List Key) : RelO (valV kvs k) ((atKey xs k).map (·.2)) := by
  induction r with
  | nil => exact True.intro
  | @cons p q ps qs h t ih =>
    obtain ⟨h1, _, h2⟩ := h
    by_cases e : p.1 = k
    · have e' : q.1 = k := h1.symm.trans e
      have b : atKey (q :: qs) k = some q.2 := by simp [atKey, List.find?_cons, e']
      rw [valV_pos e, b]; exact h2
    · have e' : ¬ q.1 = k := fun z => e (h1.trans z)
      have b : atKey (q :: qs) k = atKey qs k := by simp [atKey, List.find?_cons, e']
      rw [valV_neg e, b]; exact ih
theorem KT.repl {H : Hp} {kvs : List (List Key × V)} {xs : List (List Key × Addr × Value)} (r : KT H kvs xs) (k : List Key) {y : V} {u : Value} (ry : RelV y u) :
    KT H (kvs.map fun kv => if kv.1 = k then (kv.1, y) else kv) (xs.map (putAt k u)) := by
  induction r with
  | nil => exact .nil
  | @cons p q ps qs h t ih =>
    rw [List.map_cons, List.map_cons]
    refine .cons ?_ ih
    obtain ⟨h1, h2, h3⟩ := h
    unfold putAt
    by_cases e : p.1 = k
    · rw [if_pos e, if_pos (h1.symm.trans e)]; exact ⟨h1, h2, ry⟩
    · rw [if_neg e, if_neg (fun z => e (h1.trans z))]; exact ⟨h1, h2, h3⟩
theorem KT.put {H : Hp} {kvs : List (List Key × V)} {xs : List (List Key × Addr × Value)} (r : KT H kvs xs) (k : List Key) {b : Addr} {y : V} {u : Value} (hb : H b = some (.tup (k.map kV))) (ry : RelV y u) :
    KT H (putK kvs k y) (storedH xs k b u) := by
  have e : (kvs.any fun kv => decide (kv.1 = k)) = (atKey xs k).isSome := by
    rw [valV_any, (r.val k).isSome_eq, Option.isSome_map]
  unfold putK storedH
  rw [e]
  by_cases q : (atKey xs k).isSome = true
  · rw [if_pos q, if_pos q]; exact r.repl k ry
  · rw [if_neg q, if_neg q]; exact Paired.snoc r ⟨rfl, hb, ry⟩
theorem KT.keeps {H H' : Hp} {kvs : List (List Key × V)} {xs : List (List Key × Addr × Value)} (r : KT H kvs xs) (ht : ∀ b ys, H b = some (.tup ys) → H' b = some (.tup ys)) : KT H' kvs xs :=
  Paired.mapP r fun _ _ z => ⟨z.1, ht _ _ z.2.1, z.2.2⟩

section
variable {P : Program} {w : World} {H : Hp} {h : Heap} {a : Addr}
theorem rd_of {u : HO} (ok : HOk P w H h) (e : Rd H a u) : ObjOk P w H h a u := e.ok ok
theorem dk_rd {kvs : List (Key × V)} (ok : HOk P w H h) (e : Rd H a (.dK kvs)) : kvs.length ≤ sizeLine ∧ (a == sysModules) = false ∧ ∃ vs, KV kvs vs ∧ h.DictOf (mixKind P w) a vs :=
  show ObjOk P w H h a (.dK kvs) from rd_of ok e
theorem dk_of {kvs : List (Key × V)} (ok : HOk P w H h) (e : H a = some (.dK kvs)) : kvs.length ≤ sizeLine ∧ (a == sysModules) = false ∧ ∃ vs, KV kvs vs ∧ h.DictOf (mixKind P w) a vs := dk_rd ok (.inl e)
/-- a tracked tuple of ints and texts is a key -/
theorem key_of {ks : List Key} (ok : HOk P w H h) (e : H a = some (.tup (ks.map kV))) : (tupleKind (mixKind P w)).is h ks a := by
  obtain ⟨_, its, r, o, h1, h2, n, h3⟩ := (show ObjOk P w H h a (.tup (ks.map kV)) from ok a _ e)
  exact ⟨o, its.toArray, n, h1, h2, h3, by simpa using items_are r⟩
theorem dt_rd {kvs : List (List Key × V)} (ok : HOk P w H h) (e : Rd H a (.dT kvs)) : kvs.length ≤ sizeLine ∧ (a == sysModules) = false ∧
    ∃ xs, KT H kvs xs ∧ h.DictOfH (tupleKind (mixKind P w)) a xs := by
  obtain ⟨z, y, xs, r, o, es, ep, h1, h2, h3, h4, h5⟩ := (show ObjOk P w H h a (.dT kvs) from rd_of ok e)
  refine ⟨z, y, xs, r, o, es, ep, h1, h2, h3, h4, fun x hx => ?_, h5⟩
  have all : ∀ {l : List (List Key × V)} {m : List (List Key × Addr × Value)}, KT H l m → ∀ x ∈ m, (tupleKind (mixKind P w)).is h x.1 x.2.1 := by
    intro l m q
    induction q with
    | nil => intro x hx; exact nomatch hx
    | @cons p q ps qs hq t ih =>
      intro x hx
      rcases List.mem_cons.mp hx with e | hx
      · subst e
        exact key_of ok (by rw [← hq.1]; exact hq.2.1)
      · exact ih x hx
  exact all r x hx
theorem dt_of {kvs : List (List Key × V)} (ok : HOk P w H h) (e : H a = some (.dT kvs)) : kvs.length ≤ sizeLine ∧ (a == sysModules) = false ∧
    ∃ xs, KT H kvs xs ∧ h.DictOfH (tupleKind (mixKind P w)) a xs := dt_rd ok (.inl e)
end

/-- what the dict at a holds at the key y -/
def DGet (H : Hp) (a : Addr) (y : V) (r : Option V) : Prop :=
  (∃ kvs k, Rd H a (.dK kvs) ∧ y = kV k ∧ r = valV kvs k) ∨ ∃ kvs k b, Rd H a (.dT kvs) ∧ y = .ref b ∧ H b = some (.tup (k.map kV)) ∧ r = valV kvs k
/-- the heap behind a[y] = v -/
def DPut (H : Hp) (a : Addr) (y v : V) (H' : Hp) : Prop :=
  (∃ kvs k, H a = some (.dK kvs) ∧ y = kV k ∧ kvs.length < sizeLine ∧ H' = upd H a (.dK (putK kvs k v))) ∨
  ∃ kvs k b, H a = some (.dT kvs) ∧ y = .ref b ∧ H b = some (.tup (k.map kV)) ∧ kvs.length < sizeLine ∧ H' = upd H a (.dT (putK kvs k v))
theorem DGet.k {H : Hp} {a : Addr} {kvs : List (Key × V)} {k : Key} (e : H a = some (.dK kvs)) : DGet H a (kV k) (valV kvs k) := .inl ⟨kvs, k, .inl e, rfl, rfl⟩
theorem DPut.k {H : Hp} {a : Addr} {kvs : List (Key × V)} {k : Key} {v : V} (e : H a = some (.dK kvs)) (hl : kvs.length < sizeLine) : DPut H a (kV k) v (upd H a (.dK (putK kvs k v))) := .inl ⟨kvs, k, e, rfl, hl, rfl⟩
section
variable {X : Cx} {pins : List (Addr × Obj)} {σ : St} {H : Hp} {s : Shared} {a : Addr} {y v : V} {u r : Value} {o : Option V} {A : Around} {E : Value → Shared → Prop}

theorem Inv.big (I : Inv X pins σ H s) : sysModules < s.heap.objs.size := by
  have h : mainGlobals < s.heap.objs.size := (I.mod.glob.keeps I.bk).lt
  exact Nat.lt_trans (by decide) h

/-- d[y], there -/
theorem d_getItem {Q : Value → Shared → Prop} (hu : A.units + 1 < cLine) (I : Inv X pins σ H s) (g : DGet H a y (some v)) (ry : RelV y u) (h : ∀ w' s', Inv X pins σ H s' → RelV v w' → Q w' s') :
    wpAny (model X.prog X.w) A (getItem (.ref a) u) Q E s := by
  rcases g with ⟨kvs, k, e, ey, l⟩ | ⟨kvs, k, b, e, ey, eb, l⟩
  · subst ey
    obtain ⟨z, hd, vs, rel, dd⟩ := dk_rd I.hok e
    obtain ⟨w', hw, rw'⟩ := RelO.some_of (v := v) (o := valueAt vs k) (by rw [l]; exact rel.val k)
    exact wpAny_getItem_of (kV_is ry) dd.mapOf hw (h w' _ (I.tok _) rw')
  · subst ey
    cases (show u = Value.ref b from ry)
    obtain ⟨z, hd, xs, rel, dd⟩ := dt_rd I.hok e
    obtain ⟨w', hw, rw'⟩ := RelO.some_of (v := v) (o := (atKey xs k).map (·.2)) (by rw [l]; exact rel.val k)
    obtain ⟨p, hp, hp2⟩ := Option.map_eq_some_iff.mp hw
    refine wpAny_getItem_heap (tupleKind_room_in1 hu) (key_of I.hok eb) dd hp ?_
    rw [hp2]
    exact h w' _ (I.tok _) rw'
/-- y in d -/
theorem d_in {Q : Value → Shared → Prop} (hu : A.units + 1 < cLine) (I : Inv X pins σ H s) (g : DGet H a y o) (ry : RelV y u) (h : ∀ s', Inv X pins σ H s' → Q (.bool o.isSome) s') :
    wpAny (model X.prog X.w) A (compareOp .In u (.ref a)) Q E s := by
  rcases g with ⟨kvs, k, e, ey, l⟩ | ⟨kvs, k, b, e, ey, eb, l⟩
  · subst ey
    obtain ⟨z, hd, vs, rel, dd⟩ := dk_rd I.hok e
    refine wpAny_in_of (kV_is ry) hd dd.mapOf ?_
    rw [← (rel.val k).isSome_eq, ← l]
    exact h _ (I.tok _)
  · subst ey
    cases (show u = Value.ref b from ry)
    obtain ⟨z, hd, xs, rel, dd⟩ := dt_rd I.hok e
    refine wpAny_in_heap (tupleKind_room_in1 hu) (key_of I.hok eb) hd dd ?_
    have q := (rel.val k).isSome_eq
    rw [Option.isSome_map] at q
    rw [← q, ← l]
    exact h _ (I.tok _)
theorem d_notIn {Q : Value → Shared → Prop} (hu : A.units + 1 < cLine) (I : Inv X pins σ H s) (g : DGet H a y o) (ry : RelV y u) (h : ∀ s', Inv X pins σ H s' → Q (.bool (!o.isSome)) s') :
    wpAny (model X.prog X.w) A (compareOp .NotIn u (.ref a)) Q E s := by
  rcases g with ⟨kvs, k, e, ey, l⟩ | ⟨kvs, k, b, e, ey, eb, l⟩
  · subst ey
    obtain ⟨z, hd, vs, rel, dd⟩ := dk_rd I.hok e
    refine wpAny_notIn_of (kV_is ry) hd dd.mapOf ?_
    rw [← (rel.val k).isSome_eq, ← l]
    exact h _ (I.tok _)
  · subst ey
    cases (show u = Value.ref b from ry)
    obtain ⟨z, hd, xs, rel, dd⟩ := dt_rd I.hok e
    refine wpAny_notIn_heap (tupleKind_room_in1 hu) (key_of I.hok eb) hd dd ?_
    have q := (rel.val k).isSome_eq
    rw [Option.isSome_map] at q
    rw [← q, ← l]
    exact h _ (I.tok _)
/-- a dict's object is replaced -/
theorem d_write {h' : Heap} {t' : Nat} {ob : HO} (I : Inv X pins σ H s) (mu : Mut (H a)) (hs : Heap.SameBut a s.heap h') (he : ∃ q, h'.get? a = some q) (new : ObjOk X.prog X.w (upd H a ob) h' a ob) :
    Inv X pins σ (upd H a ob) { s with heap := h', toks := t' } :=
  I.write (x := a) (e := a) mu (.inl rfl) (fun b q hb z => (hs.2 b hb).trans z) he new
theorem dk_new {P : Program} {w : World} {H' : Hp} {h' : Heap} {kvs : List (Key × V)} {vs : List (Key × Value)} (z : kvs.length ≤ sizeLine) (hd : (a == sysModules) = false) (rel : KV kvs vs) (dd : h'.DictOf (mixKind P w) a vs) :
    ObjOk P w H' h' a (.dK kvs) := ⟨z, hd, vs, rel, dd⟩
/-- d[y] = v -/
theorem d_setItem {H' : Hp} {Q : Unit → Shared → Prop} (hu : A.units + 1 < cLine) (I : Inv X pins σ H s) (g : DPut H a y v H') (ry : RelV y u) (rv : RelV v r) (h : ∀ s', Inv X pins σ H' s' → Q () s') :
    wpAny (model X.prog X.w) A (setItem (.ref a) u r) Q E s := by
  rcases g with ⟨kvs, k, e, ey, l, eH⟩ | ⟨kvs, k, b, e, ey, eb, l, eH⟩
  · subst ey eH
    obtain ⟨z, hd, vs, rel, dd⟩ := dk_of I.hok e
    have hz : vs.length ≤ sizeLine := by rw [← rel.length]; exact z
    have hl : (putK kvs k v).length ≤ sizeLine := by have := length_putK kvs k v; omega
    refine wpAny_setItem_pairs (hsz := hz) (kV_is ry) dd fun h' dd' hs => h _ ?_
    have he : ∃ q, h'.get? a = some q := let ⟨q, _, _, hq, _⟩ := dd'; ⟨q, hq⟩
    exact d_write I (by rw [e]; exact True.intro) hs he (dk_new hl hd (rel.put k rv) dd')
  · subst ey eH
    cases (show u = Value.ref b from ry)
    obtain ⟨z, hd, xs, rel, dd⟩ := dt_of I.hok e
    have hz : xs.length ≤ sizeLine := by rw [← Paired.length rel]; exact z
    have hl : (putK kvs k v).length ≤ sizeLine := by have := length_putK kvs k v; omega
    refine wpAny_setItem_heap (hsz := hz) (tupleKind_room_in1 hu) (key_of I.hok eb) dd fun h' dd' hs => h _ ?_
    obtain ⟨q, es, ep, hq, h2, h3, h4, _, h5⟩ := dd'
    refine d_write I (by rw [e]; exact True.intro) hs ⟨q, hq⟩ ⟨hl, hd, _, (rel.put k eb rv).keeps fun c ys ec => ?_, q, es, ep, hq, h2, h3, h4, h5⟩
    rw [upd_ne (ne_of ec e (fun z => nomatch z))]
    exact ec
end

section
variable {X : Cx} {pins : List (Addr × Obj)} {σ : St} {H : Hp} {s : Shared} {a : Addr} {kvs : List (Key × V)} {k : Key} {u : Value} {A : Around} {E : Value → Shared → Prop}
/-- del d[k] -/
theorem d_delItem {Q : Unit → Shared → Prop} (I : Inv X pins σ H s) (e : H a = some (.dK kvs)) (ry : RelV (kV k) u) (l : (valV kvs k).isSome = true) (h : ∀ s', Inv X pins σ (upd H a (.dK (dropK kvs k))) s' → Q () s') :
    wpAny (model X.prog X.w) A (delItem (.ref a) u) Q E s := by
  obtain ⟨z, hd, vs, rel, dd⟩ := dk_of I.hok e
  refine wpAny_delItem_slot dd.typeIs (by decide) PySem.F.slot_dict_delitem
    (call_meetsIn PySem.F.slot_dict_delitem dd.typeIs PySem.F.entry_dict_delitem (PySem.F.args_dict_delitem_2 _ _) (meets_dict_delitem_pairs (mixKind X.prog X.w) a (kV_is ry)) ⟨vs, dd, by rw [← rel.length]; exact z, by rw [← (rel.val k).isSome_eq]; exact l, fun h' dd' hs => h _ ?_⟩)
  have he : ∃ q, h'.get? a = some q := let ⟨q, _, _, hq, _⟩ := dd'; ⟨q, hq⟩
  exact d_write I (by rw [e]; exact True.intro) hs he (dk_new (Nat.le_trans (dropK_le kvs k) z) hd (rel.drop k) dd')
/-- d.pop(k[, x]), there -/
theorem d_pop {v : V} {more : List Value} {Q : Value → Shared → Prop} (I : Inv X pins σ H s) (e : H a = some (.dK kvs)) (ry : RelV (kV k) u) (l : valV kvs k = some v) (hm : more = [] ∨ ∃ x, more = [x])
    (h : ∀ w' s', Inv X pins σ (upd H a (.dK (dropK kvs k))) s' → RelV v w' → Q w' s') : wpAny (model X.prog X.w) A (call (.builtin "dict.pop") (.ref a :: u :: more)) Q E s := by
  obtain ⟨z, hd, vs, rel, dd⟩ := dk_of I.hok e
  obtain ⟨w', hw, rw'⟩ := RelO.some_of (v := v) (o := valueAt vs k) (by rw [← l]; exact rel.val k)
  have hp : (keyPart u).isSome = true := by
    cases k with
    | inl i => obtain ⟨t, q⟩ := (show ∃ t, u = Value.int i t from ry); subst q; rfl
    | inr x => obtain ⟨t, q⟩ := (show ∃ t, u = Value.str x t from ry); subst q; rfl
  have ha : argsOk "dict.pop" ⟨.ref a :: u :: more, []⟩ := by
    rcases hm with q | ⟨x, q⟩
    · subst q; exact PySem.F.args_dict_pop_2 _ _
    · subst q; exact PySem.F.args_dict_pop_3 _ _ _
  refine call_meetsIn PySem.F.slot_dict_pop dd.typeIs PySem.F.entry_dict_pop ha (meets_dict_pop_there (mixKind X.prog X.w) a (kV_is ry) more hm hp)
    ⟨vs, w', dd, by rw [← rel.length]; exact z, hw, fun h' dd' hs => h w' _ ?_ rw'⟩
  have he : ∃ q, h'.get? a = some q := let ⟨q, _, _, hq, _⟩ := dd'; ⟨q, hq⟩
  exact d_write I (by rw [e]; exact True.intro) hs he (dk_new (Nat.le_trans (dropK_le kvs k) z) hd (rel.drop k) dd')
/-- len(d) -/
theorem d_len {Q : Value → Shared → Prop} (I : Inv X pins σ H s) (e : Rd H a (.dK kvs)) (h : ∀ t s', Inv X pins σ H s' → Q (.int kvs.length t) s') : wpAny (model X.prog X.w) A (call (.builtin "len") [.ref a]) Q E s := by
  obtain ⟨z, hd, vs, rel, dd⟩ := dk_rd I.hok e
  refine call_len_dict hd dd (by rw [← rel.length]; rw [sizeLine_eq] at z; omega) ?_
  rw [← rel.length]
  exact h _ _ (I.tok _)
end


/-! ### readings and rules -/
/-- the element of a subscription, not a slice -/
def NoSl (i : Expr) : Prop := ∀ ov iv, subscripted i false ov iv = operate [ov, iv] (getItem ov iv)
theorem subD_of {prog : Program} {w : World} {A : Around} {E : Value → Shared → Prop} {s : Shared} {env : Env} {value slice : Expr} {pos : Pos} {T id : String} {Q : Value → Shared → Prop}
    (hl : typeLookup (.type T) "__getitem__" = pure (some (.builtin id))) (hs : NoSl slice)
    (h : wpAny (model prog w) A (eval value env) (fun o s₁ => wpAny (model prog w) A (eval slice env) (fun i s₂ => s₂.TypeIs o T ∧ wpAny (model prog w) A (getItem o i) Q E s₂) E s₁) E s) :
    wpAny (model prog w) A (eval (.Subscript value slice pos) env) Q E s := by
  refine Subscript_ (wpAny_mono h (fun o s₁ h₁ => wpAny_mono h₁ (fun i s₂ h₂ => ?_) fun _ _ x => x) fun _ _ x => x)
  obtain ⟨hT, h₂⟩ := h₂
  unfold subscriptTail
  refine wpAny_bind ?_
  rw [getitemInPython_of_ne hT.not_modules]
  refine wpAny_bind (wpAny_specialOf hT hl ?_)
  have fin : wpAny (model prog w) A (subscripted slice false o i) (fun r s₃ => wpAny (model prog w) A (letTemporaryGo value o r >>= fun _ => pure r) Q E s₃) E s₂ := by
    rw [hs o i]
    exact wpAny_operating (wpAny_mono h₂ (fun r s₃ h₃ => wpAny_bind (wpAny_letTemporaryGo (wpAny_pure h₃))) fun _ _ x => x)
  first
    | exact wpAny_pure (wpAny_bind fin)
    | exact wpAny_bind (wpAny_pure (wpAny_bind fin))
    | exact wpAny_bind fin

theorem dict_typeIs {X : Cx} {pins : List (Addr × Obj)} {σ : St} {H : Hp} {s : Shared} {a : Addr} {y : V} {o : Option V} (I : Inv X pins σ H s) (g : DGet H a y o) : s.TypeIs (.ref a) "dict" := by
  rcases g with ⟨kvs, k, e, _, _⟩ | ⟨kvs, k, b, e, _, _, _⟩
  · obtain ⟨_, _, vs, _, dd⟩ := dk_rd I.hok e
    exact dd.typeIs
  · obtain ⟨_, _, xs, _, dd⟩ := dt_rd I.hok e
    exact dd.typeIs
/-- d[y] -/
def tDGet (td ty : TE) : TE := fun σ H Q => td σ H fun x H1 => ty σ H1 fun y H2 => ∃ a v, x = .ref a ∧ DGet H2 a y (some v) ∧ Q v H2
/-- y in d, y not in d -/
def tDIn (ty td : TE) : TE := fun σ H Q => ty σ H fun y H1 => td σ H1 fun x H2 => ∃ a o, x = .ref a ∧ DGet H2 a y o ∧ Q (.bl o.isSome) H2
def tDNotIn (ty td : TE) : TE := fun σ H Q => ty σ H fun y H1 => td σ H1 fun x H2 => ∃ a o, x = .ref a ∧ DGet H2 a y o ∧ Q (.bl (!o.isSome)) H2
/-- d[y] = v -/
def sDPut (td ty tv : TE) : TS := fun D σ H => tv σ H fun v H1 => td σ H1 fun x H2 => ty σ H2 fun y H3 => ∃ a H4, x = .ref a ∧ DPut H3 a y v H4 ∧ D.nx σ H4
section
variable {X : Cx} {o i e value : Expr} {pos pos' tpos : Pos} {td ty tv : TE}
theorem pe_dget (hu : X.A.units + 1 < cLine) (ho : PE X o td) (hi : PE X i ty) (hs : NoSl i) : PE X (.Subscript o i pos) (tDGet td ty) := by
  intro pins s σ H Q I h
  refine subD_of PySem.F.slot_dict_getitem.lookup hs (thn (ho pins s σ H _ I h) fun u s1 ⟨x, H1, I1, rx, q1⟩ => thn (hi pins s1 σ H1 _ I1 q1) fun iv s2 ⟨y, H2, I2, ry, a, v, ex, g, q2⟩ => ?_)
  subst ex
  obtain rfl : u = Value.ref a := rx
  exact ⟨dict_typeIs I2 g, d_getItem hu I2 g ry fun w' s3 I3 rw' => ⟨v, H2, I3, rw', q2⟩⟩
theorem pc_din (hu : X.A.units + 1 < cLine) (hi : PE X i ty) (ho : PE X o td) : PC X .In i o (tDIn ty td) := by
  intro pins s σ H Q I h
  refine thn (hi pins s σ H _ I h) fun iv s1 ⟨y, H1, I1, ry, q1⟩ => thn (ho pins s1 σ H1 _ I1 q1) fun u s2 ⟨x, H2, I2, rx, a, ov, ex, g, q2⟩ => ?_
  subst ex
  obtain rfl : u = Value.ref a := rx
  exact d_in hu I2 g ry fun s3 I3 => ⟨.bl ov.isSome, H2, I3, rfl, q2⟩
theorem pc_dnotin (hu : X.A.units + 1 < cLine) (hi : PE X i ty) (ho : PE X o td) : PC X .NotIn i o (tDNotIn ty td) := by
  intro pins s σ H Q I h
  refine thn (hi pins s σ H _ I h) fun iv s1 ⟨y, H1, I1, ry, q1⟩ => thn (ho pins s1 σ H1 _ I1 q1) fun u s2 ⟨x, H2, I2, rx, a, ov, ex, g, q2⟩ => ?_
  subst ex
  obtain rfl : u = Value.ref a := rx
  exact d_notIn hu I2 g ry fun s3 I3 => ⟨.bl (!ov.isSome), H2, I3, rfl, q2⟩
theorem ps_dput (hu : X.A.units + 1 < cLine) (ho : PE X o td) (hi : PE X i ty) (hv : PE X value tv) (hs : swapsWith value (some (.Subscript o i pos')) pos.line X.env = pure false) :
    PS X (.Assign [.Subscript o i pos'] value pos) (sDPut td ty tv) := by
  intro pins s σ H D I h
  refine wpAny_Assign_Subscript (thn (hv pins s σ H _ I h) fun r s1 ⟨v, H1, I1, rv, q1⟩ => thn (ho pins s1 σ H1 _ I1 q1) fun u s2 ⟨x, H2, I2, rx, q2⟩ => thn (hi pins s2 σ H2 _ I2 q2) fun iv s3 ⟨y, H3, I3, ry, a, H4, ex, g, q3⟩ => ?_) hs
  subst ex
  obtain rfl : u = Value.ref a := rx
  exact d_setItem hu I3 g ry rv fun s4 I4 => ⟨σ, H4, I4, q3⟩
end


/-! ### displays -/
theorem dk_empty {P : Program} {w : World} {H : Hp} (h : Heap) (hb : sysModules < h.objs.size) : ObjOk P w H (h.push { cls := .type "dict", data := .dict #[] }) h.objs.size (.dK []) :=
  ⟨Nat.zero_le _, beq_eq_false_iff_ne.mpr (Ne.symm (Nat.ne_of_lt hb)), [], .nil, Heap.DictOf.new h⟩
/-- {}, to be a dict of the kind that is wanted -/
def tDNewK : TE := fun _ H Q => ∀ p, H p = none → Q (.ref p) (upd H p (.dK []))
section
variable {X : Cx} {pos : Pos}
theorem pe_dnewK : PE X (.Dict [] [] pos) tDNewK := fun pins s σ H Q I h =>
  wpAny_Dict_empty ⟨.ref s.heap.objs.size, _, I.laid (a := s.heap.objs.size) (o := .dK []) (t' := s.toks) (fun _ _ q => Heap.get?_push_of_some _ q) (Nat.le_refl _) (dk_empty s.heap I.big), rfl, h _ (I.hok.fresh (Nat.le_refl _))⟩
end

/-! ### methods -/
/-- a method call o.m(e) of a built-in, with one argument: what must be seen of the text -/
structure M1 (X : Cx) (o : Expr) (m : Str) (apos : Pos) (e : Expr) (cpos : Pos) : Prop where
  base : attributeBase o m X.env (eval o X.env) = eval o X.env
  few : ((backTo cpos (starEach [e] X.env)).all (fun x => !x.1) && (backToKw cpos (keywordEach [] X.env)).all (fun x => x.1.isSome)
    && decide (([e] : List Expr).length + ([] : List Keyword).length + (if ([] : List Keyword).isEmpty then 0 else 1) < 30)) = true
  line : (apos.endLine == cpos.line) = true
  trees : backTo cpos (starEach [e] X.env) = [(false, eval e X.env)]
/-- a is a dict, whatever its keys -/
def IsD (H : Hp) (a : Addr) : Prop := (∃ kvs, Rd H a (.dK kvs)) ∨ ∃ kvs, Rd H a (.dT kvs)
theorem isD_at {X : Cx} {pins : List (Addr × Obj)} {σ : St} {H : Hp} {s : Shared} {a : Addr} (I : Inv X pins σ H s) (d : IsD H a) :
    s.TypeIs (.ref a) "dict" ∧ (∀ b, Value.ref a = .ref b → ∃ ob, s.heap.get? b = some ob ∧ ob.dict = none) ∧ (a == sysModules) = false := by
  rcases d with ⟨kvs, e⟩ | ⟨kvs, e⟩
  · obtain ⟨_, hd, vs, _, dd⟩ := dk_rd I.hok e
    refine ⟨dd.typeIs, fun b q => ?_, hd⟩
    cases q
    obtain ⟨ob, _, _, h1, h2, _⟩ := dd
    exact ⟨ob, h1, h2.2.1⟩
  · obtain ⟨_, hd, xs, _, dd⟩ := dt_rd I.hok e
    refine ⟨dd.typeIs, fun b q => ?_, hd⟩
    cases q
    obtain ⟨ob, _, _, h1, h2, _⟩ := dd
    exact ⟨ob, h1, h2.2.1⟩

section
variable {X : Cx} {pins : List (Addr × Obj)} {σ : St} {H : Hp} {s : Shared} {a : Addr} {y d : V} {u r : Value} {o : Option V} {A : Around} {E : Value → Shared → Prop}
end

/-- d.pop(k): there; d.pop(k, x): there or not -/
def tDPop1 (td ty : TE) : TE := fun σ H Q => td σ H fun x H1 => ∃ a, x = .ref a ∧ IsD H1 a ∧ ty σ H1 fun y H2 => ∃ kvs k v, H2 a = some (.dK kvs) ∧ y = kV k ∧ valV kvs k = some v ∧ Q v (upd H2 a (.dK (dropK kvs k)))
section
variable {X : Cx} {o e f : Expr} {apos cpos : Pos} {td ty tx : TE}
theorem pe_dpop1 (ho : PE X o td) (he : PE X e ty) (m : M1 X o "pop" apos e cpos) : PE X (.Call (.Attribute o "pop" apos) [e] [] cpos) (tDPop1 td ty) := by
  intro pins s σ H Q I h
  refine wpAny_Call_method m.base m.few m.line PySem.F.plainAttrs_dict PySem.F.slot_dict_pop PySem.F.type_dict_pop (thn (ho pins s σ H _ I h) fun u s1 ⟨x, H1, I1, rx, a, ex, d, q1⟩ => ?_)
  subst ex
  obtain rfl : u = Value.ref a := rx
  obtain ⟨t1, t2, _⟩ := isD_at I1 d
  refine ⟨t1, t2, ?_⟩
  rw [m.trees]
  refine Calls.callWith_builtin rfl (Calls.evalArgs_plain (Calls.spliced_cons (thn (he pins s1 σ H1 _ I1 q1) fun iv s2 ⟨y, H2, I2, ry, kvs, k, v, ea, ey, l, q2⟩ => Calls.spliced_nil ?_)))
  subst ey
  exact d_pop I2 ea ry l (.inl rfl) fun w' s3 I3 rw' => ⟨v, _, I3, rw', q2⟩
end

/-! ### dict(d): a copy -/
section
variable {X : Cx} {pins : List (Addr × Obj)} {σ : St} {H : Hp} {s : Shared} {a : Addr} {kvs : List (Key × V)} {A : Around} {E : Value → Shared → Prop}
end


section
variable {X : Cx} {pins : List (Addr × Obj)} {σ : St} {H : Hp} {s : Shared} {a : Addr} {y : V} {u : Value} {A : Around} {E : Value → Shared → Prop}
end
end L2

namespace L2
open PySem PySem.Spec PyProof.Rows

section
variable {prog : Program} {w : World} {A : Around} {E : Value → Shared → Prop}
end

section
variable {X : Cx}
end
end L2

namespace L2
open PySem PySem.Spec PyProof.Rows

section
variable {X : Cx} {pins : List (Addr × Obj)} {σ : St} {H : Hp} {s : Shared} {h' : Heap}
/-- .. and one new object is laid -/
theorem Inv.turnedNew {t' : Nat} {ch : List Addr} {T : Addr} {ob : HO} (I : Inv X pins σ H s) (k : ∀ b o, b ∉ ch → s.heap.get? b = some o → h'.get? b = some o) (hf : ∀ b ∈ ch, FpOk X pins H b) (hT : s.heap.objs.size ≤ T)
    (new : ObjOk X.prog X.w (upd H T ob) h' T ob) : Inv X pins σ (upd H T ob) { s with heap := h', toks := t' } := by
  have hn : H T = none := I.hok.fresh hT
  have nit : ∀ b u, H b = some u → b ∉ ch := fun b u e z => by
    have q := (hf b z).1
    rw [q] at e; cases e
  refine I.step (g' := s.gens) (d' := s.drawn) (ch := ch) (fun b hb => ⟨(hf b hb).2.2.2.1, (hf b hb).2.1, (hf b hb).2.2.2.2.1, (hf b hb).2.2.2.2.2⟩) (fun b o _ _ hc e _ => k b o hc e) (fun b o _ _ hc e _ => ⟨o.slots, k b o hc e⟩)
    (fun b o _ e n => ?_) (fun b o hc e => ⟨o, k b o hc e⟩) (fun b xs e => ?_) (fun b o u e => ?_) (fun b ps e => ⟨#[], ?_⟩) (fun m hm => ?_) (fun b u e => ?_) I.bare
  · rw [upd_ne (Nat.ne_of_lt (Nat.lt_of_lt_of_le (Heap.lt_size e) hT))]; exact n
  · rw [upd_ne (ne_of_none e hn)]; exact e
  · rw [upd_ne (ne_of_none e hn)]; exact e
  · rw [upd_ne (ne_of_none e hn), e]; simp
  · obtain ⟨o, es, ep, ho, r⟩ := hm
    exact ⟨o, es, ep, k _ o (fun z => (hf _ z).2.1 rfl) ho, r⟩
  · by_cases hb : b = T
    · subst hb
      rw [upd_same] at e
      cases e
      exact new
    · rw [upd_ne hb] at e
      refine (I.hok b u e).stay (fun c v hc q => k c v ?_ q) (fun c q => by rw [upd_ne (ne_of_none q hn)]; exact q) fun c xs q => by rw [upd_ne (ne_of_none q hn)]; exact q
      rcases hc with z | z
      · rw [z]; exact nit b u e
      · exact nit c _ z

/-! ### locking a thing while a statement runs -/
theorem Inv.lock {d : Addr} {u : HO} (I : Inv X pins σ H s) (h : H d = some u) (mu : Mut (some u)) : ∃ od, Inv X pins σ (upd H d (.frz od u)) s := by
  have x := I.hok d u h
  have ex : ∃ od, s.heap.get? d = some od := by
    cases u with
    | lst xs => obtain ⟨_, _, _, _, e⟩ := x; exact ⟨_, e⟩
    | dK kvs => obtain ⟨_, _, _, _, o, _, _, e, _⟩ := x; exact ⟨o, e⟩
    | dT kvs => obtain ⟨_, _, _, _, o, _, _, e, _⟩ := x; exact ⟨o, e⟩
    | set S n => obtain ⟨o, _, _, _, e, _⟩ := x; exact ⟨o, e⟩
    | ins C dx fs => obtain ⟨_, _, _, e, _⟩ := x; exact ⟨_, e⟩
    | ext φ => obtain ⟨_, ⟨_, e⟩, _⟩ := x; exact ⟨_, e⟩
    | _ => exact False.elim mu
  obtain ⟨od, e⟩ := ex
  have new : ObjOk X.prog X.w (upd H d (.frz od u)) s.heap d (.frz od u) := by
    refine ⟨e, x.stay (fun b v _ q => q) (fun b q => ?_) fun b xs q => ?_⟩
    · rw [upd_ne (fun z => by rw [z, h] at q; cases q; exact mu)]; exact q
    · rw [upd_ne (fun z => by rw [z, h] at q; cases q; exact mu)]; exact q
  exact ⟨od, I.write (x := d) (e := d) (t' := s.toks) (h' := s.heap) (by rw [h]; exact mu) (.inl rfl) (fun b v _ q => q) ⟨od, e⟩ new⟩
theorem Inv.nofrz {d : Addr} {u : HO} (I : Inv X pins σ H s) (h : H d = some u) (mu : Mut (some u)) : ∀ o' u', X.H_0 d ≠ some (.frz o' u') := fun o' u' e => by
  have q := I.base.frzs d o' u' e
  rw [h] at q
  cases q
  exact mu
theorem Inv.unlock {d : Addr} {od : Obj} {u : HO} (I : Inv X pins σ H s) (h : H d = some (.frz od u)) (hn : ∀ o' u', X.H_0 d ≠ some (.frz o' u')) : Inv X pins σ (upd H d u) s := by
  have neH : ∀ b o, H b = some o → (∀ o' u', o ≠ .frz o' u') → b ≠ d := fun b o e hne z => by
    rw [z, h] at e
    cases e
    exact hne _ _ rfl
  have neN : ∀ b, H b = none → b ≠ d := fun b e z => by rw [z, h] at e; cases e
  refine ⟨I.ok, I.os, I.bare, ⟨I.base.keep, I.base.slot, fun b o e n hx => ?_, I.base.there, fun b xs e => ?_, fun b o x e => ?_, fun b ps e => ?_⟩, I.loc, I.cell, ?_, fun x c e => ?_, fun p hp => ?_, fun b o e => ?_, I.len⟩
  · rw [upd_ne (neN b (I.base.free b o e n hx))]; exact I.base.free b o e n hx
  · have q := I.base.tups b xs e
    rw [upd_ne (neH b _ q (fun _ _ z => nomatch z))]; exact q
  · have q := I.base.frzs b o x e
    rw [upd_ne (fun z => by rw [z] at e; exact hn _ _ e)]; exact q
  · obtain ⟨m, q⟩ := I.base.tbls b ps e
    exact ⟨m, by rw [upd_ne (neH b _ q (fun _ _ z => nomatch z))]; exact q⟩
  · rw [upd_ne (neN _ I.free)]; exact I.free
  · rw [upd_ne (neN c (I.freeC x c e))]; exact I.freeC x c e
  · obtain ⟨e, n, r⟩ := I.pin p hp
    exact ⟨e, by rw [upd_ne (neN _ n)]; exact n, r⟩
  · by_cases hb : b = d
    · rw [hb, upd_same] at e
      cases e
      rw [hb]
      obtain ⟨_, x⟩ := I.hok d _ h
      exact x.stay (fun c v _ q => q) (fun c q => by rw [upd_ne (neH c _ q (fun _ _ z => nomatch z))]; exact q) fun c xs q => by rw [upd_ne (neH c _ q (fun _ _ z => nomatch z))]; exact q
    · rw [upd_ne hb] at e
      exact (I.hok b o e).stay (fun c v _ q => q) (fun c q => by rw [upd_ne (neH c _ q (fun _ _ z => nomatch z))]; exact q) fun c xs q => by rw [upd_ne (neH c _ q (fun _ _ z => nomatch z))]; exact q
end
def tLockE (t : TE) : TE := fun σ H Q => ∃ d u, H d = some u ∧ Mut (some u) ∧ ∀ od, t σ (upd H d (.frz od u)) fun v H' => H' d = some (.frz od u) ∧ Q v (upd H' d u)
section
variable {X : Cx}
theorem pe_lock {e : Expr} {t : TE} (h : PE X e t) : PE X e (tLockE t) := by
  intro pins s σ H Q I hw
  obtain ⟨d, u, hd, mu, hw⟩ := hw
  obtain ⟨od, I1⟩ := I.lock hd mu
  refine thn (h pins s σ _ _ I1 (hw od)) fun v s1 ⟨x, H1, I2, r, e2, q⟩ => ?_
  exact ⟨x, _, I2.unlock e2 (I.nofrz hd mu), r, q⟩

/-! ### one iterator just laid -/
theorem pi_one {tg : Expr} {pins : List (Addr × Obj)} {σ : St} {H : Hp} {s : Shared} {R : It → Hp → Prop} {J : It} {tn : Nat → Heap → Prop} {tk : Nat} (I : Inv X pins σ H s) (o : Obj)
    (T : Turn X.prog X.w X.K tg J [s.heap.objs.size] s.heap.objs.size tn) (st : tn 0 (s.heap.push o)) (q : R J H) : PIE X pins σ tg R (.ref s.heap.objs.size) { s with heap := s.heap.push o, toks := tk } := by
  refine ⟨s.heap.objs.size, [s.heap.objs.size], tn, J, H, rfl, I.kept fun b ob e => Heap.get?_push_of_some _ e, T, st, fun b hb => ?_, q⟩
  have e : b = s.heap.objs.size := by simpa using hb
  subst e
  exact I.fpOk (Nat.le_refl _) (I.hok.fresh (Nat.le_refl _))
end

/-! ### range with a step -/
section
variable {X : Cx} {tg : Expr}
end
/-! ### reversed(list) -/
section
variable {X : Cx} {tg : Expr}
end

/-! ### a str -/
/-! ### a dict's keys: any dict's entries -/
section
variable {prog : Program} {w : World} {A : Around} {E : Value → Shared → Prop} {s : Shared}
end

/-! ### a locked dict -/
theorem kv_get {κ : Type} {kvs : List (κ × V)} {vs : List (κ × Value)} (h : KV kvs vs) : ∀ {i : Nat} {k : κ} {v : V}, kvs[i]? = some (k, v) → ∃ u, vs[i]? = some (k, u) ∧ RelV v u := by
  unfold KV at h
  induction h with
  | nil => intro i k v e; simp at e
  | @cons a b l₁ l₂ r t ih =>
    intro i k v e
    cases i with
    | zero =>
      simp only [List.getElem?_cons_zero, Option.some.injEq] at e
      subst e
      refine ⟨b.2, ?_, r.2⟩
      simp only [List.getElem?_cons_zero]
      exact congrArg some (Prod.ext r.1.symm rfl)
    | succ j =>
      simp only [List.getElem?_cons_succ] at e ⊢
      exact ih e
section
variable {X : Cx} {pins : List (Addr × Obj)} {σ : St} {H : Hp} {s : Shared} {d : Addr} {o : Obj}
theorem Inv.frzK {kvs : List (Key × V)} (I : Inv X pins σ H s) (h : H d = some (.frz o (.dK kvs))) :
    (d == sysModules) = false ∧ s.heap.get? d = some o ∧ o.ExactDict ∧ ∃ (es : Array DictEntry) (ep : Nat) (vs : List (Key × Value)), o.data = .dict es ep ∧ es.size = kvs.length ∧ KV kvs vs ∧ s.heap.DictAt (mixKind X.prog X.w) d vs ep := by
  obtain ⟨hd, z, hs, vs, kv, o', es, ep, ho, hx, hdt, r⟩ := I.hok d _ h
  rw [hd] at ho
  cases ho
  refine ⟨hs, hd, hx, es, ep, vs, hdt, ?_, kv, o, es, hd, hx, hdt, r⟩
  have l1 := r.2.1.length
  have l2 : kvs.length = vs.length := Paired.length kv
  rw [Array.length_toList] at l1
  omega
end

/-- the values -/
def Itd (d : Addr) (o : Obj) (kvs : List (Key × V)) : It :=
  ⟨fun i H => H d = some (.frz o (.dK kvs)) ∧ i < kvs.length, fun i H x H' => H' = H ∧ ∃ k, kvs[i]? = some (k, x), fun i H => H d = some (.frz o (.dK kvs)) ∧ kvs.length ≤ i⟩
theorem dict_ep {o : Obj} {es es' : Array DictEntry} {ep ep' : Nat} (h : o.data = .dict es ep) (h' : o.data = .dict es' ep') : es' = es ∧ ep' = ep := by
  rw [h] at h'
  cases h'
  exact ⟨rfl, rfl⟩
section
variable {P : Program} {w : World} {K : PySem.W.Frag} {tg : Expr} {d : Addr} {o : Obj} {es : Array DictEntry} {ep : Nat}
theorem turn_vals {kvs : List (Key × V)} (it : Addr) (hod : o.data = .dict es ep) : Turn P w K tg (Itd d o kvs) [it] it (fun i h => h.IsValIter it d i kvs.length ep) where
  mem := by simp
  obj := fun i h st b hb => by
    have e : b = it := by simpa using hb
    subst e
    obtain ⟨oi, e, c, dd⟩ := st
    exact ⟨oi, e, fun v z => by rw [dd] at z; cases z⟩
  keep := fun i h h' st k => st.at fun oi e => k it (by simp) oi e
  item := by
    intro X hP hw hK hc i pins s σ H E I hf st hg
    subst hP hw hK
    obtain ⟨hd, hi⟩ := hg
    obtain ⟨f0, f1, f2, f3, f4, f5⟩ := hf it (by simp)
    obtain ⟨hs, hgd, hx, es', ep', vs, hdt, hsz, kv, hm⟩ := I.frzK hd
    obtain ⟨rfl, rfl⟩ := dict_ep hod hdt
    obtain ⟨⟨k, v⟩, hkv⟩ : ∃ p, kvs[i]? = some p := ⟨kvs[i], List.getElem?_eq_getElem hi⟩
    obtain ⟨u, hu, ru⟩ := kv_get kv hkv
    have hl : kvs.length = vs.length := Paired.length kv
    rw [hl] at st
    refine wpAny_pyNext_values_item st hm hu fun h' st' sb => ?_
    have I1 : Inv X pins σ H { s with heap := h' } := I.turned (t' := s.toks) (fun b ob hb e => (sb.2 b hb).trans e) f0 f1 f3 f4 f5
    obtain ⟨oi, e, c, dd⟩ := id st'
    refine ⟨u, rfl, go_of (s := { s with heap := h' }) e c dd (by decide) ⟨v, H, I1, ru, ⟨rfl, k, hkv⟩, ?_, fun b hb => (hf b hb).1⟩⟩
    show h'.IsValIter it d (i + 1) kvs.length _
    rw [hl]
    exact st'
  done := by
    intro X hP hw hK hc i pins s σ H E I hf st hg
    subst hP hw hK
    obtain ⟨hd, hi⟩ := hg
    obtain ⟨f0, f1, f2, f3, f4, f5⟩ := hf it (by simp)
    obtain ⟨hs, hgd, hx, es', ep', vs, hdt, hsz, kv, hm⟩ := I.frzK hd
    obtain ⟨rfl, rfl⟩ := dict_ep hod hdt
    have hl : kvs.length = vs.length := Paired.length kv
    rw [hl] at st
    exact wpAny_pyNext_values_end (I.ok.hd hc) st hm (List.getElem?_eq_none (by omega)) fun h' eb => ⟨rfl, I.turned (t' := s.toks) (fun b ob hb e => eb b ob hb e) f0 f1 f3 f4 f5⟩
  self := fun A i s Q E st h => wpAny_pyIter_valiter st h
end

/-! ### for k in d, d.keys(), d.values(), d.items() -/
def iVals (td : TE) : TI := fun σ H R => td σ H fun x H1 => ∃ d o kvs, x = .ref d ∧ H1 d = some (.frz o (.dK kvs)) ∧ R (Itd d o kvs) H1
section
variable {X : Cx} {tg e : Expr} {td : TE} {apos cpos : Pos}
theorem pi_values (he : PE X e td) (hbase : attributeBase e "values" X.env (eval e X.env) = eval e X.env := by rfl) (hline : (apos.endLine == cpos.line) = true := by rfl) : PI X tg (.Call (.Attribute e "values" apos) [] [] cpos) (iVals td) := by
  intro pins s σ H R I h
  refine wpAny_Call_method (T := "dict") (id := "dict.values") hbase rfl hline F.plainAttrs_dict F.slot_dict_values F.type_dict_values (thn (he pins s σ H _ I h) fun u s1 ⟨x, H1, I1, rx, d, o, kvs, ex, hd, q⟩ => ?_)
  subst ex
  obtain rfl : u = Value.ref d := rx
  obtain ⟨hs, hgd, hx, es, ep, vs, hdt, hsz, kv, hm⟩ := I1.frzK hd
  have hl : kvs.length = vs.length := Paired.length kv
  refine ⟨hm.dictOf.typeIs, hm.dictOf.mapOf.noDict, ?_⟩
  have I2 : Inv X pins σ H1 { s1 with heap := s1.heap.push { cls := .type "dict_values", data := .fields #[.ref d] } } := I1.kept (t' := s1.toks) fun b ob q => Heap.get?_push_of_some _ q
  have fin : wpAny (model X.prog X.w) X.A (pyIter (.ref s1.heap.objs.size)) (PIE X pins σ tg R) X.xe { s1 with heap := s1.heap.push { cls := .type "dict_values", data := .fields #[.ref d] } } := by
    refine wpAny_pyIter_values (d := d) (knd := mixKind X.prog X.w) ⟨_, Heap.get?_push_size _ rfl, rfl, rfl⟩ (hm.push _) (pi_one (tk := s1.toks) I2 _ (turn_vals _ hdt) ⟨_, Heap.get?_push_size _ rfl, rfl, ?_⟩ q)
    rw [hl] <;> rfl
  show wpAny _ _ (callWith cpos (.builtin "dict.values") [.ref d] [] []) _ X.xe s1
  exact method_meetsIn F.slot_dict_values F.entry_dict_values rfl (PySem.evalArgs_none ⟨rfl, hm.dictOf.typeIs, F.args_dict_values_1 _, _, meets_dict_values (mixKind X.prog X.w) d hs, ⟨vs, hm.dictOf⟩, fin⟩)
end

/-! ### enumerate(list) -/
/-- the list at a as it stands at each turn, each item in a new pair -/
def Ite (K : PySem.W.Frag) (a : Addr) : It :=
  ⟨fun i H => ∃ (xs : List V) (x : V), SqL K H a xs ∧ xs[i]? = some x, fun i H v H' => ∃ T x, v = .ref T ∧ H T = none ∧ H' = upd H T (.tup [.int (i : Nat), x]) ∧ ∀ xs, SqL K H a xs → xs[i]? = some x, fun i H => ∃ xs : List V, SqL K H a xs ∧ xs.length ≤ i⟩
theorem turn_enum {P : Program} {w : World} {K : PySem.W.Frag} {elts : List Expr} {kk : Nat} {tpos : Pos} (a e it : Addr) :
    Turn P w K (.Tuple elts kk tpos) (Ite K a) [e, it] e (fun i h => (∃ old, IsEnum h e it ((i : Nat) : Int) old) ∧ h.IsListIter it a i ∧ e ≠ it) where
  mem := by simp
  obj := fun i h st b hb => by
    obtain ⟨⟨old, he⟩, ⟨o, ho, hc, hd⟩, _⟩ := st
    have e' : b = e ∨ b = it := by simpa using hb
    rcases e' with z | z
    · rw [z]; exact ⟨_, he, fun v q => nomatch q⟩
    · rw [z]; exact ⟨o, ho, fun v q => by rw [hd] at q; cases q⟩
  keep := fun i h h' st k => let ⟨⟨old, he⟩, hi, hne⟩ := st; ⟨⟨old, k e (by simp) _ he⟩, hi.at fun o q => k it (by simp) o q, hne⟩
  item := by
    intro X hP hw hK hc i pins s σ H E I hf st hg
    subst hP hw hK
    obtain ⟨⟨old, he⟩, hit, hne⟩ := st
    obtain ⟨xs, x, hq, hx⟩ := hg
    obtain ⟨its, rv, p, hz⟩ := I.list hq
    obtain ⟨u, hu, ru⟩ := rv.get hx
    have hel : e < s.heap.objs.size := Heap.lt_size he
    have hil : it < s.heap.objs.size := by obtain ⟨_, q, _⟩ := hit; exact Heap.lt_size q
    refine wpAny_pyNext_enum_item he hit p.isList (x := u) (by simpa using hu) hne fun h' ho hit' hT hsz hk => ?_
    refine ⟨_, rfl, wpAny_letOwnedTupleGo_enum (s := { s with heap := h', toks := s.toks + 1 }) ho fun h'' he' sb => ?_⟩
    have hT2 : h''.get? s.heap.objs.size = some { cls := .type "tuple", data := .seq #[.int i s.toks, u] } := (sb.2 _ (Nat.ne_of_gt hel)).trans hT
    have new : ObjOk X.prog X.w (upd H s.heap.objs.size (.tup [.int (i : Nat), x])) h'' s.heap.objs.size (.tup [.int (i : Nat), x]) :=
      ⟨by show 2 ≤ sizeLine; decide, [.int i s.toks, u], .cons ⟨_, rfl⟩ (.cons ru .nil), ⟨_, hT2, rfl, _, rfl⟩⟩
    have I1 : Inv X pins σ (upd H s.heap.objs.size (.tup [.int (i : Nat), x])) { s with heap := h'', toks := s.toks + 1 } :=
      I.turnedNew (ch := [e, it]) (fun b ob hb q => (sb.2 b (fun z => hb (by simp [z]))).trans (hk b ob (fun z => hb (by simp [z])) (fun z => hb (by simp [z])) q)) hf (Nat.le_refl _) new
    refine ⟨.ref s.heap.objs.size, _, I1, rfl, ⟨_, x, rfl, I.hok.fresh (Nat.le_refl _), rfl, fun ys hy => by rw [I.list_inj hy hq]; exact hx⟩, ⟨⟨u, ?_⟩, hit'.at fun o q => (sb.2 it (Ne.symm hne)).trans q, hne⟩, fun b hb => ?_⟩
    · have e1 : ((i + 1 : Nat) : Int) = (i : Int) + 1 := by omega
      rw [e1]; exact he'
    · have hb' : b < s.heap.objs.size := by
        have e' : b = e ∨ b = it := by simpa using hb
        rcases e' with z | z
        · rw [z]; exact hel
        · rw [z]; exact hil
      rw [upd_ne (Nat.ne_of_lt hb')]
      exact (hf b hb).1
  done := by
    intro X hP hw hK hc i pins s σ H E I hf st hg
    subst hP hw hK
    obtain ⟨⟨old, he⟩, hit, hne⟩ := st
    obtain ⟨xs, hq, hx⟩ := hg
    obtain ⟨its, rv, p, hz⟩ := I.list hq
    obtain ⟨f0, f1, f2, f3, f4, f5⟩ := hf it (by simp)
    have hl := rv.length
    exact wpAny_pyNext_enum_end (I.ok.hd hc) he hit p.isList (by simp; omega) fun h' eb => ⟨rfl, I.turned (t' := s.toks) (fun b o hb q => eb b o hb q) f0 f1 f3 f4 f5⟩
  self := fun A i s Q E st h => let ⟨⟨_, he⟩, _⟩ := st; wpAny_pyIter_enum he h
def iEnum (K : PySem.W.Frag) (ta : TA) : TI := fun σ H R => ta σ H fun vs H1 => ∃ a xs, vs = [.ref a] ∧ SqL K H1 a xs ∧ R (Ite K a) H1
theorem pi_enum {X : Cx} {e : Expr} {ta : TA} {p pos tpos : Pos} {elts : List Expr} {kk : Nat} (hg : Gl X "enumerate") (hm : X.mg "enumerate" = none) (ha : PA X [e] ta) (hs : starEach [e] X.env = [(false, eval e X.env)] := by rfl) :
    PI X (.Tuple elts kk tpos) (.Call (.Name "enumerate" p) [e] [] pos) (iEnum X.K ta) := by
  intro pins s σ H R I h
  refine Call_ (ld_blt I hg hm boot_enumerate (PyProof.Rows.callWith_type1 (thn (ha pos pins s σ H _ I h) fun us s1 ⟨vs, H1, I1, r1, q1⟩ => ?_) hs rfl))
  obtain ⟨a, xs, ex, hq, q⟩ := q1
  subst ex
  cases r1 with
  | cons r rr =>
    cases rr
    cases r
    obtain ⟨its, rv, p', hz⟩ := I1.list hq
    refine call_enumerate_list p'.isList fun h' he hit hsz hk => wpAny_pyIter_enum he ?_
    have I2 : Inv X pins σ H1 { s1 with heap := h' } := I1.kept (t' := s1.toks) hk
    refine ⟨s1.heap.objs.size + 1, [s1.heap.objs.size + 1, s1.heap.objs.size], _, _, H1, rfl, I2, turn_enum a (s1.heap.objs.size + 1) s1.heap.objs.size, ⟨⟨.none, he⟩, hit, Nat.succ_ne_self _⟩, fun b hb => ?_, q⟩
    have e' : b = s1.heap.objs.size + 1 ∨ b = s1.heap.objs.size := by simpa using hb
    have hle : s1.heap.objs.size ≤ b := by
      rcases e' with z | z
      · rw [z]; exact Nat.le_add_right _ _
      · rw [z]; exact Nat.le_refl _
    exact I1.fpOk hle (I1.hok.fresh hle)
/-! ### zip(list, list) -/
end L2

section
set_option Elab.async false
set_option linter.all false
set_option maxRecDepth 100000
set_option maxHeartbeats 2000000
namespace L2
open PySem PySem.Spec PyProof.Rows
open PySem.W (WData Codec OpenSpec Well WellAll ReadsW ReadsAllW)
/-! ### an answer as data -/
mutual
/-- x stands for the datum d, lists and tuples all the way -/
inductive Dw (K : PySem.W.Frag) (H : Hp) : V → WData → Prop
  | non : Dw K H .non .none
  | bl (b : Bool) : Dw K H (.bl b) (.bool b)
  | int (i : Int) : Dw K H (.int i) (.int i)
  | str (x : Str) : Dw K H (.str x) (.str x)
  | byt (b : Array UInt8) : Dw K H (.byt b) (.bytes b.toList)
  | lst {a : Addr} {xs : List V} {ds : List WData} : SqL K H a xs → DwAll K H xs ds → Dw K H (.ref a) (.list ds)
  | tup {a : Addr} {xs : List V} {ds : List WData} : SqT K H a xs → DwAll K H xs ds → Dw K H (.ref a) (.tuple ds)
inductive DwAll (K : PySem.W.Frag) (H : Hp) : List V → List WData → Prop
  | nil : DwAll K H [] []
  | cons {v : V} {vs : List V} {d : WData} {ds : List WData} : Dw K H v d → DwAll K H vs ds → DwAll K H (v :: vs) (d :: ds)
end
theorem dw_ints {K : PySem.W.Frag} {H : Hp} : ∀ ns : List Int, DwAll K H (ns.map V.int) (ns.map WData.int)
  | [] => .nil
  | n :: r => .cons (.int n) (dw_ints r)
theorem ints_dw {K : PySem.W.Frag} {H : Hp} : ∀ (ns : List Int) (xs : List V), DwAll K H xs (ns.map WData.int) → xs = ns.map V.int
  | [], xs, h => by
    cases h
    rfl
  | n :: r, xs, h => by
    cases h with
    | cons h1 h2 =>
      cases h1
      rw [ints_dw r _ h2] <;> rfl
section
variable {P : Program} {w : World} {K : PySem.W.Frag} {H : Hp} {h : Heap} {R : PySem.W.WRecords} {cl : Str → Option Addr}
theorem sqL_at {a : Addr} {xs : List V} (hok : HOk P w H h) (KX : K.In h) (q : SqL K H a xs) : ∃ (its : List Value) (o : Obj) (n : Nat), Vals xs its ∧ h.get? a = some o ∧ o.cls = .type "list" ∧ o.data = .seq its.toArray n := by
  rcases q with q | ⟨o, its, n, e, hc, _, hd, _, hv⟩
  · obtain ⟨_, its, n, hv, e⟩ := (show ObjOk P w H h a (.lst xs) from q.ok hok)
    exact ⟨its, _, n, hv, e, rfl, rfl⟩
  · exact ⟨its.toList, o, n, hv, KX _ _ e, hc, by simp [hd]⟩
theorem sqT_at {a : Addr} {xs : List V} (hok : HOk P w H h) (KX : K.In h) (q : SqT K H a xs) : ∃ (its : List Value) (o : Obj) (n : Nat), Vals xs its ∧ h.get? a = some o ∧ o.cls = .type "tuple" ∧ o.data = .seq its.toArray n := by
  rcases q with q | ⟨o, its, n, e, hc, hd, _, hv⟩
  · obtain ⟨_, its, hv, o, e, hc, n, hd⟩ := (show ObjOk P w H h a (.tup xs) from q.ok hok)
    exact ⟨its, o, n, hv, e, hc, hd⟩
  · exact ⟨its.toList, o, n, hv, KX _ _ e, hc, by simp [hd]⟩
mutual
theorem Dw.reads (hok : HOk P w H h) (KX : K.In h) : ∀ (d : WData) (v : V) (u : Value), Dw K H v d → RelV v u → ∃ as, ReadsW R cl h u d as
  | .none, _, _, x, r => by
    cases x
    cases r
    exact ⟨_, ReadsW.none⟩
  | .bool b, _, _, x, r => by
    cases x
    cases r
    exact ⟨_, ReadsW.bool b⟩
  | .int i, _, _, x, r => by
    cases x
    obtain ⟨t, rfl⟩ := r
    exact ⟨_, ReadsW.int i t⟩
  | .str s, _, _, x, r => by
    cases x
    obtain ⟨t, rfl⟩ := r
    exact ⟨_, ReadsW.str s t⟩
  | .bytes b, _, _, x, r => by
    cases x
    obtain ⟨t, rfl⟩ := r
    exact ⟨_, ReadsW.bytes _ t⟩
  | .list ds, _, _, x, r => by
    cases x with
    | lst hs ha =>
      cases r
      obtain ⟨its, o, n, rv, ho, hc, hd⟩ := sqL_at hok KX hs
      obtain ⟨as, hr⟩ := Dw.readsAll hok KX ds _ its ha rv
      exact ⟨_, ReadsW.list ho hc hd hr⟩
  | .tuple ds, _, _, x, r => by
    cases x with
    | tup hs ha =>
      cases r
      obtain ⟨its, o, n, rv, ho, hc, hd⟩ := sqT_at hok KX hs
      obtain ⟨as, hr⟩ := Dw.readsAll hok KX ds _ its ha rv
      exact ⟨_, ReadsW.tuple ho hc hd hr⟩
  | .float _, _, _, x, _ => by cases x
  | .dict _, _, _, x, _ => by cases x
  | .bytearray _, _, _, x, _ => by cases x
  | .set _, _, _, x, _ => by cases x
  | .frozenset _, _, _, x, _ => by cases x
  | .obj _ _, _, _, x, _ => by cases x
theorem Dw.readsAll (hok : HOk P w H h) (KX : K.In h) : ∀ (ds : List WData) (vs : List V) (us : List Value), DwAll K H vs ds → Vals vs us → ∃ as, ReadsAllW R cl h us ds as
  | [], _, _, x, r => by
    cases x
    cases r
    exact ⟨_, ReadsAllW.nil⟩
  | d :: ds, _, _, x, r => by
    cases x with
    | cons h1 h2 =>
      cases r with
      | cons r1 r2 =>
        obtain ⟨as, q1⟩ := Dw.reads hok KX d _ _ h1 r1
        obtain ⟨bs, q2⟩ := Dw.readsAll hok KX ds _ _ h2 r2
        exact ⟨_, ReadsAllW.cons q1 q2⟩
end
end
/-! ### the arguments -/
mutual
/-- data that a codec tells -/
def plW : WData → Bool
  | .none => true
  | .bool _ => true
  | .int _ => true
  | .str _ => true
  | .bytes _ => true
  | .list xs => plWs xs
  | .tuple xs => plWs xs
  | _ => false
def plWs : List WData → Bool
  | [] => true
  | x :: r => plW x && plWs r
end
theorem plWs_map {α : Type} {f : α → WData} (h : ∀ a, plW (f a) = true) : ∀ l : List α, plWs (l.map f) = true
  | [] => rfl
  | x :: r => by
    show (plW (f x) && plWs (r.map f)) = true
    rw [h x, plWs_map h r] <;> rfl
theorem pl_enc : ∀ (c : Codec) (a : c.denote), plW (c.enc a) = true
  | .unit, _ => rfl
  | .bool, _ => rfl
  | .int _ _, _ => rfl
  | .nat _ _, _ => rfl
  | .u8, _ => rfl
  | .bytes _ _, _ => rfl
  | .text _ _ _ _, _ => rfl
  | .list _ _ c, a => plWs_map (fun x => pl_enc c x) a
  | .pair c d, a => by
    show (plW (c.enc a.1) && (plW (d.enc a.2) && true)) = true
    rw [pl_enc c a.1, pl_enc d a.2] <;> rfl
  | .triple c d e, a => by
    show (plW (c.enc a.1) && (plW (d.enc a.2.1) && (plW (e.enc a.2.2) && true))) = true
    rw [pl_enc c a.1, pl_enc d a.2.1, pl_enc e a.2.2] <;> rfl
  | .option c, none => rfl
  | .option c, some x => pl_enc c x
theorem pl_encAll : ∀ (cs : List Codec) (a : Codec.denoteAll cs), plWs (Codec.encAll cs a) = true
  | [], _ => rfl
  | c :: cs, a => by
    show (plW (c.enc a.1) && plWs (Codec.encAll cs a.2)) = true
    rw [pl_enc c a.1, pl_encAll cs a.2] <;> rfl
theorem weight_mem : ∀ {xs : List WData} {d : WData}, d ∈ xs → d.weight ≤ WData.weightAll xs
  | [], d, h => absurd h (by simp)
  | x :: r, d, h => by
    show d.weight ≤ x.weight + 1 + WData.weightAll r
    rcases List.mem_cons.mp h with e | m
    · rw [e]
      omega
    · have z := weight_mem m
      omega
def toV : Value → V
  | .none => .non
  | .bool b => .bl b
  | .int i _ => .int i
  | .str x _ => .str x
  | .bytes b _ => .byt b
  | .ref a => .ref a
  | _ => .non
/-- a value of the arguments, its objects among A -/
def OkU (A : List Addr) : Value → Prop
  | .none => True
  | .bool _ => True
  | .int _ _ => True
  | .str _ _ => True
  | .bytes _ _ => True
  | .ref a => a ∈ A
  | _ => False
theorem OkU.mono {A B : List Addr} (h : ∀ a ∈ A, a ∈ B) : ∀ {u : Value}, OkU A u → OkU B u := fun {u} x => by
  cases u with
  | ref a => exact h a x
  | none => trivial
  | bool b => trivial
  | int i t => trivial
  | str s t => trivial
  | bytes b t => trivial
  | _ => exact False.elim x
theorem relV_toV {A : List Addr} {u : Value} (x : OkU A u) : RelV (toV u) u := by
  cases u with
  | ref a => rfl
  | none => rfl
  | bool b => rfl
  | int i t => exact ⟨t, rfl⟩
  | str s t => exact ⟨t, rfl⟩
  | bytes b t => exact ⟨t, rfl⟩
  | _ => exact False.elim x
theorem vals_toV {A : List Addr} : ∀ {vs : List Value}, (∀ u ∈ vs, OkU A u) → Vals (vs.map toV) vs
  | [], _ => .nil
  | u :: r, h => .cons (relV_toV (h u (List.mem_cons_self ..))) (vals_toV fun x hx => h x (List.mem_cons_of_mem _ hx))
/-- an object of the arguments -/
def ArgOb (h : Heap) (A : List Addr) (a : Addr) : Prop := ∃ vs : List Value, vs.length ≤ sizeLine ∧ (∀ u ∈ vs, OkU A u) ∧
  (h.get? a = some { cls := .type "list", data := .seq vs.toArray } ∨ h.get? a = some { cls := .type "tuple", data := .seq vs.toArray })
theorem ArgOb.mono {h : Heap} {A B : List Addr} {a : Addr} (k : ∀ a ∈ A, a ∈ B) (x : ArgOb h A a) : ArgOb h B a := by
  obtain ⟨vs, h1, h2, h3⟩ := x
  exact ⟨vs, h1, fun u hu => (h2 u hu).mono k, h3⟩
theorem wellAll_len {P : Params} {h : Heap} : ∀ {vs : List Value} {ds : List WData}, WellAll P h vs ds → vs.length = ds.length
  | _, _, .nil => rfl
  | _, _, .cons _ b => by
    show _ + 1 = _ + 1
    rw [wellAll_len b]
theorem well_list {P : Params} {h : Heap} {v : Value} {ds : List WData} (x : Well P h v (.list ds)) : ∃ (a : Addr) (vs : List Value), v = .ref a ∧ h.get? a = some { cls := .type "list", data := .seq vs.toArray } ∧ WellAll P h vs ds := by
  cases x with
  | list ho hall => exact ⟨_, _, rfl, ho, hall⟩
theorem well_tuple {P : Params} {h : Heap} {v : Value} {ds : List WData} (x : Well P h v (.tuple ds)) : ∃ (a : Addr) (vs : List Value), v = .ref a ∧ h.get? a = some { cls := .type "tuple", data := .seq vs.toArray } ∧ WellAll P h vs ds := by
  cases x with
  | tuple ho hall => exact ⟨_, _, rfl, ho, hall⟩
theorem well_cons {P : Params} {h : Heap} {us : List Value} {d : WData} {ds : List WData} (x : WellAll P h us (d :: ds)) : ∃ (v : Value) (vs : List Value), us = v :: vs ∧ Well P h v d ∧ WellAll P h vs ds := by
  cases x with
  | cons a b => exact ⟨_, _, rfl, a, b⟩
theorem line_of {n : Nat} (h : n ≤ 1048576) : n ≤ sizeLine := Nat.le_trans h (by decide)
section
variable {P : Params} {h : Heap}
mutual
theorem area_one : ∀ (d : WData) (v : Value), Well P h v d → plW d = true → d.weight ≤ 1048576 → ∃ A : List Addr, OkU A v ∧ ∀ a ∈ A, ArgOb h A a
  | .none, _, x, _, _ => by
    cases x
    exact ⟨[], trivial, fun a m => absurd m (by simp)⟩
  | .bool b, _, x, _, _ => by
    cases x
    exact ⟨[], trivial, fun a m => absurd m (by simp)⟩
  | .int i, _, x, _, _ => by
    cases x
    exact ⟨[], trivial, fun a m => absurd m (by simp)⟩
  | .str s, _, x, _, _ => by
    cases x
    exact ⟨[], trivial, fun a m => absurd m (by simp)⟩
  | .bytes b, _, x, _, _ => by
    cases x
    exact ⟨[], trivial, fun a m => absurd m (by simp)⟩
  | .list ds, _, x, p, z => by
    obtain ⟨a, vs, rfl, ho, hall⟩ := well_list x
    have z2 : WData.weightAll ds ≤ 1048576 := z
    obtain ⟨A, h1, h2⟩ := area_all ds _ hall p fun d hd => Nat.le_trans (weight_mem hd) z2
    have k : ∀ b ∈ A, b ∈ a :: A := fun b hb => List.mem_cons_of_mem _ hb
    refine ⟨a :: A, List.mem_cons_self .., fun b hb => ?_⟩
    rcases List.mem_cons.mp hb with e | m
    · rw [e]
      exact ⟨vs, line_of (by rw [wellAll_len hall]; exact Nat.le_trans (PySem.W.length_le_weightAllW ds) z2), fun u hu => (h1 u hu).mono k, .inl ho⟩
    · exact (h2 b m).mono k
  | .tuple ds, _, x, p, z => by
    obtain ⟨a, vs, rfl, ho, hall⟩ := well_tuple x
    have z2 : WData.weightAll ds ≤ 1048576 := z
    obtain ⟨A, h1, h2⟩ := area_all ds _ hall p fun d hd => Nat.le_trans (weight_mem hd) z2
    have k : ∀ b ∈ A, b ∈ a :: A := fun b hb => List.mem_cons_of_mem _ hb
    refine ⟨a :: A, List.mem_cons_self .., fun b hb => ?_⟩
    rcases List.mem_cons.mp hb with e | m
    · rw [e]
      exact ⟨vs, line_of (by rw [wellAll_len hall]; exact Nat.le_trans (PySem.W.length_le_weightAllW ds) z2), fun u hu => (h1 u hu).mono k, .inr ho⟩
    · exact (h2 b m).mono k
  | .float _, _, _, p, _ => Bool.noConfusion (show false = true from p)
  | .dict _, _, _, p, _ => Bool.noConfusion (show false = true from p)
  | .bytearray _, _, _, p, _ => Bool.noConfusion (show false = true from p)
  | .set _, _, _, p, _ => Bool.noConfusion (show false = true from p)
  | .frozenset _, _, _, p, _ => Bool.noConfusion (show false = true from p)
  | .obj _ _, _, _, p, _ => Bool.noConfusion (show false = true from p)
theorem area_all : ∀ (ds : List WData) (vs : List Value), WellAll P h vs ds → plWs ds = true → (∀ d ∈ ds, d.weight ≤ 1048576) → ∃ A : List Addr, (∀ u ∈ vs, OkU A u) ∧ ∀ a ∈ A, ArgOb h A a
  | [], _, x, _, _ => by
    cases x
    exact ⟨[], fun u m => absurd m (by simp), fun a m => absurd m (by simp)⟩
  | d :: ds, _, x, p, z => by
    obtain ⟨v, vs, rfl, x1, x2⟩ := well_cons x
    have q : plW d = true ∧ plWs ds = true := Bool.and_eq_true_iff.mp p
    obtain ⟨A, a1, a2⟩ := area_one d v x1 q.1 (z d (List.mem_cons_self ..))
    obtain ⟨B, b1, b2⟩ := area_all ds vs x2 q.2 fun e he => z e (List.mem_cons_of_mem _ he)
    have kA : ∀ b ∈ A, b ∈ A ++ B := fun b hb => List.mem_append.mpr (.inl hb)
    have kB : ∀ b ∈ B, b ∈ A ++ B := fun b hb => List.mem_append.mpr (.inr hb)
    refine ⟨A ++ B, fun u hu => ?_, fun b hb => ?_⟩
    · rcases List.mem_cons.mp hu with e | m
      · rw [e]
        exact a1.mono kA
      · exact (b1 u m).mono kB
    · rcases List.mem_append.mp hb with m | m
      · exact (a2 b m).mono kA
      · exact (b2 b m).mono kB
end
end
/-- what is tracked of an argument's object -/
def hoOf (o : Obj) : Option HO := match o.data with
  | .seq vs _ => if (o.cls == Value.type "list") = true then some (.frz o (.lst (vs.toList.map toV))) else some (.frz o (.tup (vs.toList.map toV)))
  | _ => none
def argH (K : PySem.W.Frag) (h : Heap) (A : List Addr) : Hp := fun b => if b ∈ A then (if (K.lookup b).isNone = true then (h.get? b).bind hoOf else none) else none
/-- nothing is tracked but what is known to the object -/
def OnlyF (H : Hp) : Prop := ∀ b, H b = none ∨ ∃ o u, H b = some (.frz o u)
theorem hoOf_lst (vs : List Value) : hoOf { cls := .type "list", data := .seq vs.toArray } = some (.frz { cls := .type "list", data := .seq vs.toArray } (.lst (vs.map toV))) := by
  show (if (Value.type "list" == Value.type "list") = true then some (HO.frz { cls := .type "list", data := .seq vs.toArray } (.lst (vs.toArray.toList.map toV))) else some (HO.frz { cls := .type "list", data := .seq vs.toArray } (.tup (vs.toArray.toList.map toV)))) = _
  rw [if_pos (beq_self_eq_true _)]
theorem hoOf_tup (vs : List Value) : hoOf { cls := .type "tuple", data := .seq vs.toArray } = some (.frz { cls := .type "tuple", data := .seq vs.toArray } (.tup (vs.map toV))) := by
  show (if (Value.type "tuple" == Value.type "list") = true then some (HO.frz { cls := .type "tuple", data := .seq vs.toArray } (.lst (vs.toArray.toList.map toV))) else some (HO.frz { cls := .type "tuple", data := .seq vs.toArray } (.tup (vs.toArray.toList.map toV)))) = _
  rw [if_neg (by decide)]
section
variable {P : Program} {w : World} {K : PySem.W.Frag} {h : Heap} {A : List Addr}
theorem argH_at {b : Addr} {o : Obj} (hb : b ∈ A) (hk : K.lookup b = none) (e : h.get? b = some o) : argH K h A b = hoOf o := by
  unfold argH
  rw [if_pos hb, hk, if_pos (show (none : Option Obj).isNone = true from rfl), e] <;> rfl
theorem of_argH {b : Addr} {u : HO} (q : argH K h A b = some u) : b ∈ A ∧ K.lookup b = none := by
  unfold argH at q
  by_cases hb : b ∈ A
  · rw [if_pos hb] at q
    cases hk : K.lookup b with
    | none => exact ⟨hb, rfl⟩
    | some o =>
      rw [hk, if_neg (by simp)] at q
      cases q
  · rw [if_neg hb] at q
    cases q
/-- what stands tracked -/
theorem argH_is (ar : ∀ a ∈ A, ArgOb h A a) {b : Addr} {u : HO} (q : argH K h A b = some u) : K.lookup b = none ∧ ∃ vs : List Value, vs.length ≤ sizeLine ∧ (∀ u ∈ vs, OkU A u) ∧
    ((h.get? b = some { cls := .type "list", data := .seq vs.toArray } ∧ u = .frz { cls := .type "list", data := .seq vs.toArray } (.lst (vs.map toV))) ∨
     (h.get? b = some { cls := .type "tuple", data := .seq vs.toArray } ∧ u = .frz { cls := .type "tuple", data := .seq vs.toArray } (.tup (vs.map toV)))) := by
  obtain ⟨hb, hk⟩ := of_argH q
  obtain ⟨vs, h1, h2, h3⟩ := ar b hb
  refine ⟨hk, vs, h1, h2, ?_⟩
  rcases h3 with e | e
  · rw [argH_at hb hk e, hoOf_lst] at q
    exact .inl ⟨e, (Option.some.inj q).symm⟩
  · rw [argH_at hb hk e, hoOf_tup] at q
    exact .inr ⟨e, (Option.some.inj q).symm⟩
theorem argH_only (ar : ∀ a ∈ A, ArgOb h A a) : OnlyF (argH K h A) := fun b => by
  cases q : argH K h A b with
  | none => exact .inl rfl
  | some u =>
    obtain ⟨_, vs, _, _, ⟨_, e⟩ | ⟨_, e⟩⟩ := argH_is ar q
    · exact .inr ⟨_, _, by rw [e]⟩
    · exact .inr ⟨_, _, by rw [e]⟩
theorem argH_ok (ar : ∀ a ∈ A, ArgOb h A a) : HOk P w (argH K h A) h := fun b u q => by
  obtain ⟨_, vs, h1, h2, ⟨e, rfl⟩ | ⟨e, rfl⟩⟩ := argH_is ar q
  · exact ⟨e, by rw [List.length_map]; exact h1, vs, _, vals_toV h2, e⟩
  · exact ⟨e, by rw [List.length_map]; exact h1, vs, vals_toV h2, _, e, rfl, _, rfl⟩
theorem seq_inj {c c' : Value} {vs us : List Value} (e : (some { cls := c, data := .seq vs.toArray } : Option Obj) = some { cls := c', data := .seq us.toArray }) : c = c' ∧ vs = us := by
  have e1 := Option.some.inj e
  have e2 : c = c' := congrArg Obj.cls e1
  have e3 : Data.seq vs.toArray = Data.seq us.toArray := congrArg Obj.data e1
  injection e3 with e4
  refine ⟨e2, ?_⟩
  have e5 := congrArg Array.toList e4
  simpa using e5
/-- a list argument -/
theorem argL (KX : K.In h) (ar : ∀ a ∈ A, ArgOb h A a) {a : Addr} {vs : List Value} (ha : a ∈ A) (e : h.get? a = some { cls := .type "list", data := .seq vs.toArray }) : (∀ u ∈ vs, OkU A u) ∧ SqL K (argH K h A) a (vs.map toV) := by
  obtain ⟨us, h1, h2, h3⟩ := ar a ha
  have hu : us = vs := by
    rcases h3 with q | q
    · rw [e] at q
      exact (seq_inj q).2.symm
    · rw [e] at q
      exact absurd (Value.type.inj (seq_inj q).1) (by decide)
  subst hu
  refine ⟨h2, ?_⟩
  cases hk : K.lookup a with
  | none => exact .inl (.inr ⟨_, by rw [argH_at ha hk e, hoOf_lst]⟩)
  | some o =>
    have e2 := KX a o hk
    rw [e] at e2
    obtain rfl := Option.some.inj e2
    exact .inr ⟨_, us.toArray, _, hk, rfl, rfl, rfl, by rw [List.size_toArray]; exact h1, by simpa using vals_toV h2⟩
theorem argT (KX : K.In h) (ar : ∀ a ∈ A, ArgOb h A a) {a : Addr} {vs : List Value} (ha : a ∈ A) (e : h.get? a = some { cls := .type "tuple", data := .seq vs.toArray }) : (∀ u ∈ vs, OkU A u) ∧ SqT K (argH K h A) a (vs.map toV) := by
  obtain ⟨us, h1, h2, h3⟩ := ar a ha
  have hu : us = vs := by
    rcases h3 with q | q
    · rw [e] at q
      exact absurd (Value.type.inj (seq_inj q).1) (by decide)
    · rw [e] at q
      exact (seq_inj q).2.symm
  subst hu
  refine ⟨h2, ?_⟩
  cases hk : K.lookup a with
  | none => exact .inl (.inr ⟨_, by rw [argH_at ha hk e, hoOf_tup]⟩)
  | some o =>
    have e2 := KX a o hk
    rw [e] at e2
    obtain rfl := Option.some.inj e2
    exact .inr ⟨_, us.toArray, _, hk, rfl, rfl, by rw [List.size_toArray]; exact h1, by simpa using vals_toV h2⟩
mutual
theorem dw_one {Pm : Params} (KX : K.In h) (ar : ∀ a ∈ A, ArgOb h A a) : ∀ (d : WData) (v : Value), Well Pm h v d → plW d = true → OkU A v → Dw K (argH K h A) (toV v) d
  | .none, _, x, _, _ => by
    cases x
    exact .non
  | .bool b, _, x, _, _ => by
    cases x
    exact .bl b
  | .int i, _, x, _, _ => by
    cases x
    exact .int i
  | .str s, _, x, _, _ => by
    cases x
    exact .str s
  | .bytes b, _, x, _, _ => by
    cases x
    have z := Dw.byt (K := K) (H := argH K h A) b.toArray
    exact z
  | .list ds, _, x, p, hu => by
    obtain ⟨a, vs, rfl, ho, hall⟩ := well_list x
    obtain ⟨h2, hs⟩ := argL KX ar hu ho
    exact .lst hs (dw_all KX ar ds _ hall p h2)
  | .tuple ds, _, x, p, hu => by
    obtain ⟨a, vs, rfl, ho, hall⟩ := well_tuple x
    obtain ⟨h2, hs⟩ := argT KX ar hu ho
    exact .tup hs (dw_all KX ar ds _ hall p h2)
  | .float _, _, _, p, _ => Bool.noConfusion (show false = true from p)
  | .dict _, _, _, p, _ => Bool.noConfusion (show false = true from p)
  | .bytearray _, _, _, p, _ => Bool.noConfusion (show false = true from p)
  | .set _, _, _, p, _ => Bool.noConfusion (show false = true from p)
  | .frozenset _, _, _, p, _ => Bool.noConfusion (show false = true from p)
  | .obj _ _, _, _, p, _ => Bool.noConfusion (show false = true from p)
theorem dw_all {Pm : Params} (KX : K.In h) (ar : ∀ a ∈ A, ArgOb h A a) : ∀ (ds : List WData) (vs : List Value), WellAll Pm h vs ds → plWs ds = true → (∀ u ∈ vs, OkU A u) → DwAll K (argH K h A) (vs.map toV) ds
  | [], _, x, _, _ => by
    cases x
    exact .nil
  | d :: ds, _, x, p, hu => by
    obtain ⟨v, vs, rfl, x1, x2⟩ := well_cons x
    have q : plW d = true ∧ plWs ds = true := Bool.and_eq_true_iff.mp p
    exact .cons (dw_one KX ar d v x1 q.1 (hu _ (List.mem_cons_self ..))) (dw_all KX ar ds vs x2 q.2 fun u m => hu u (List.mem_cons_of_mem _ m))
end
end
/-! ### the call -/
theorem spec_call {P : Program} {w : World} {K : PySem.W.Frag} {mg mb : Str → Option Value} {CX : CXT} {k : Nat} {fa : Addr} {fd : FuncData} {ps : List Str} {sp : Sp} {s₁ : Shared} {vals : List Value} {ds : List WData} {R : PySem.W.WRecords} {cl : Str → Option Addr} {d0 : WData}
    (KX : K.In s₁.heap) (hns : s₁.heap.Ns mainGlobals mg) (hb : s₁.heap.Ns builtinsNs mb) (hbb : ∀ x : Str, x ≠ "__name__" → mb x = bootBuiltins x) (hlim : s₁.heap.NoLimit) (hg : s₁.gens = #[])
    (hwl : WellAll w.params s₁.heap vals ds) (hpl : plWs ds = true) (hwt : ∀ d ∈ ds, d.weight ≤ 1048576) (hr : Room k callerA)
    (F : ∀ base : Heap, K.In base → base.Ns mainGlobals mg → FnOk P w K mg base CX k fa fd ps sp) (hbind : ∀ (s : Shared) (us : List Value), us.length = ps.length → BindsTo s fd ⟨us, []⟩ (ps.zip us)) (hlen : ds.length = ps.length)
    (hsp : ∀ (H : Hp) (xs : List V), OnlyF H → DwAll K H xs ds → sp xs H (fun v H' => Dw K H' v d0) fun _ _ _ => False)
    (hCX : ∀ H e s', CX [] H s₁ (fun _ _ _ => False) e s' → False) :
    codeAny (model P w) callerA (.call (.ref fa) ⟨vals, []⟩) (fun r s' => ∃ u as, r = .ok (.ret u) ∧ ReadsW R cl s'.heap u d0 as ∧ OldK s₁.heap s'.heap ∧ s'.os = s₁.os ∧ AllBare s'.gens) s₁ := by
  obtain ⟨A, ho, ar⟩ := area_all ds vals hwl hpl hwt
  have hO : OnlyF (argH K s₁.heap A) := argH_only ar
  have hok : HOk P w (argH K s₁.heap A) s₁.heap := argH_ok ar
  have hS := dw_all KX ar ds vals hwl hpl ho
  have hV := vals_toV ho
  have hK : ∀ b u, argH K s₁.heap A b = some u → K.lookup b = none := fun b u q => (argH_is ar q).1
  have noA : ∀ {b : Addr} {o : Obj} {es : Array DictEntry} {ep : Nat}, s₁.heap.get? b = some o → o.data = .dict es ep → argH K s₁.heap A b = none := fun {b o es ep} e d => by
    cases q : argH K s₁.heap A b with
    | none => rfl
    | some u =>
      obtain ⟨_, vs, _, _, ⟨e2, _⟩ | ⟨e2, _⟩⟩ := argH_is ar q
      · rw [e2] at e
        cases e
        have d' : Data.seq vs.toArray _ = Data.dict es ep := d
        cases d'
      · rw [e2] at e
        cases e
        have d' : Data.seq vs.toArray _ = Data.dict es ep := d
        cases d'
  generalize argH K s₁.heap A = H at hO hok hS hK noA
  have base_of : ∀ {b : Addr} {o : Obj}, s₁.heap.get? b = some o → H b = none → (hidT s₁.heap H).get? b = some o := fun e n => hidT_get e n
  have nsK : ∀ {b : Addr} {m : Str → Option Value}, s₁.heap.Ns b m → (hidT s₁.heap H).Ns b m := fun {b m} ⟨o, es, ep, e, d, r⟩ => ⟨o, es, ep, base_of e (noA e d), d, r⟩
  have nK : ∀ b o, K.lookup b = some o → H b = none := fun b o e => by
    cases q : H b with
    | none => rfl
    | some u =>
      rw [hK b u q] at e
      cases e
  have hKb : K.In (hidT s₁.heap H) := fun b o e => base_of (KX b o e) (nK b o e)
  have hM : Mod K mg (hidT s₁.heap H) := ⟨hKb, nsK hns, ⟨mb, nsK hb, hbb⟩, let ⟨mc, h1, h2⟩ := hlim; ⟨mc, nsK h1, h2⟩⟩
  have e0 : Env0 P w K mg (hidT s₁.heap H) callerA [] s₁ H := ⟨rfl, hM, fun b o e => of_hidT e, Nat.le_of_eq (hidT_size _ _), trivial, fun b hb => absurd (show b ∈ ([] : List Addr) from hb) (by simp), hok, .of_eq hg⟩
  have hl : vals.length = ps.length := by rw [wellAll_len hwl]; exact hlen
  refine codeAny_mono ((F _ hKb (nsK hns)).run callerA [] s₁ H ⟨vals, []⟩ vals (vals.map toV) _ _ hr e0 (hbind s₁ vals hl) hV (hsp H _ hO hS)) fun r s' x => ?_
  cases r with
  | error e => exact (hCX H e s' x).elim
  | ok fl =>
    cases fl with
    | next => exact False.elim x
    | brk => exact False.elim x
    | cont => exact False.elim x
    | ret u =>
      obtain ⟨v, H', os, bare, un, hok', r', q⟩ := x
      have kept : ∀ b o, s₁.heap.get? b = some o → s'.heap.get? b = some o := fun b o e => by
        cases q2 : H b with
        | none => exact un.keep b o e q2 (by intro z; exact absurd (show b ∈ ([] : List Addr) from z) (by simp)) (by simp)
        | some u2 =>
          rcases hO b with z | ⟨ob, u3, z⟩
          · rw [q2] at z
            cases z
          · have z2 := un.frzs b ob _ z
            obtain ⟨e1, _⟩ := hok b _ z
            obtain ⟨e2, _⟩ := hok' b _ z2
            rw [e] at e1
            cases e1
            exact e2
      have KX' : K.In s'.heap := fun b o e => kept b o (KX b o e)
      obtain ⟨as, hrd⟩ := Dw.reads (R := R) (cl := cl) hok' KX' d0 v u q r'
      exact ⟨u, as, rfl, hrd, OldK.of_keep kept, os, bare⟩
/-! ### the row -/
theorem layable_weight {ds : List WData} (h : WData.layableAll ds = true) : ∀ d ∈ ds, d.weight ≤ 1048576 := fun d hd =>
  (PySem.W.layableW_iff.mp (List.all_eq_true.mp h d hd)).2.2
theorem encAll_len : ∀ (cs : List Codec) (a : Codec.denoteAll cs), (Codec.encAll cs a).length = cs.length
  | [], _ => rfl
  | c :: cs, a => by
    show (Codec.encAll cs a.2).length + 1 = cs.length + 1
    rw [encAll_len cs a.2]
/-- the goal that k_headS leaves (case hc), from the promise of the row's def: whatever the arguments that the codecs let and the row asks for, the def gives what stands for enc (f ..) -/
theorem walk_spec {r : OpenSpec} {k : Nat} {q : Program} {loose : List Str} {XP : (Str → Option Value) → Heap → Prop} {YP : World → Heap → Prop} {d : DefRec} {K : Params → PySem.W.Frag} {CX : World → CXT} {ps : List Str} {sp : World → Sp}
    (hwell : r.wellSaid = true) (hdf : d.params.defaults = []) (hlen : r.args.length = ps.length) (hr : Room k callerA)
    (hY : ∀ (w : World) (h : Heap), YP w h → (K w.params).In h)
    (F : ∀ (w : World) (mg : Str → Option Value) (fa : Addr) (h : Heap), YP w h → (K w.params).In h → h.Ns mainGlobals mg → mg d.name = some (.ref fa) →
      ∃ fd : FuncData, (∀ (s : Shared) (us : List Value), us.length = ps.length → BindsTo s fd ⟨us, []⟩ (ps.zip us)) ∧
        ∀ base : Heap, (K w.params).In base → base.Ns mainGlobals mg → FnOk r.prog w (K w.params) mg base (CX w) k fa fd ps (sp w))
    (hsp : ∀ (w : World) (H : Hp) (xs : List V) (a : Codec.denoteAll r.args), OnlyF H → Codec.withinAll r.args a = true → Codec.app r.args r.asked a = true → DwAll (K w.params) H xs (Codec.encAll r.args a) →
      sp w xs H (fun v H' => Dw (K w.params) H' v (r.ret.enc (Codec.app r.args r.f a))) fun _ _ _ => False)
    (hCX : ∀ (w : World) (H : Hp) (s : Shared) (e : Value) (s' : Shared), CX w [] H s (fun _ _ _ => False) e s' → False) :
    PySem.W.WalkOS q loose XP YP r d [] (fun f vs => PySem.call f vs) := by
  intro w s_0 s₁ mg mb G Y fa o pm cd doc dV kV ho hd hcd hD hmg hg args vals as hpre hlay hrd hwl hlo
  obtain ⟨a, e1, e2⟩ := PySem.W.os_pre_some hpre
  obtain ⟨e3, hwi⟩ := Codec.encAll_of_decAll r.args args a e1
  subst e3
  have KX := hY w _ Y
  obtain ⟨fd, hb, hF⟩ := F w mg fa _ Y KX G.T.g hmg
  refine PySem.W.enter_call (codeAny_mono (spec_call (R := []) (cl := classAt s_0.heap) (d0 := r.ret.enc (Codec.app r.args r.f a)) KX G.T.g G.T.b G.T.builtins G.T.nolimit hg hwl (pl_encAll _ _) (layable_weight hlay) hr hF hb (by rw [encAll_len]; exact hlen)
    (fun H xs hO hS => hsp w H xs a hO hwi e2 hS) fun H e s' => hCX w H s₁ e s') fun r' s' hq => ?_)
  obtain ⟨u, as', rfl, h1, h2, h3, h4⟩ := hq
  exact ⟨.inl ⟨u, _, as', rfl, fun _ => rfl, h1, (OpenSpec.post_iff hwell hwi _ _).mpr rfl, fun z => Bool.noConfusion (show false = true from z)⟩, h2, h3, h4⟩
/-- the same where the promise hangs on the written part alone -/
theorem walk_specK {r : OpenSpec} {k : Nat} {q : Program} {loose : List Str} {XP : (Str → Option Value) → Heap → Prop} {YP : World → Heap → Prop} {d : DefRec} {K : Params → PySem.W.Frag} {CX : CXT} {ps : List Str} {sp : PySem.W.Frag → Sp}
    (hwell : r.wellSaid = true) (hdf : d.params.defaults = []) (hlen : r.args.length = ps.length) (hr : Room k callerA)
    (hY : ∀ (w : World) (h : Heap), YP w h → (K w.params).In h)
    (F : ∀ (w : World) (mg : Str → Option Value) (fa : Addr) (h : Heap), YP w h → (K w.params).In h → h.Ns mainGlobals mg → mg d.name = some (.ref fa) →
      ∃ fd : FuncData, (∀ (s : Shared) (us : List Value), us.length = ps.length → BindsTo s fd ⟨us, []⟩ (ps.zip us)) ∧
        ∀ base : Heap, (K w.params).In base → base.Ns mainGlobals mg → FnOk r.prog w (K w.params) mg base CX k fa fd ps (sp (K w.params)))
    (hsp : ∀ (K : PySem.W.Frag) (H : Hp) (xs : List V) (a : Codec.denoteAll r.args), OnlyF H → Codec.withinAll r.args a = true → Codec.app r.args r.asked a = true → DwAll K H xs (Codec.encAll r.args a) →
      sp K xs H (fun v H' => Dw K H' v (r.ret.enc (Codec.app r.args r.f a))) fun _ _ _ => False)
    (hCX : ∀ (H : Hp) (s : Shared) (e : Value) (s' : Shared), CX [] H s (fun _ _ _ => False) e s' → False) :
    PySem.W.WalkOS q loose XP YP r d [] (fun f vs => PySem.call f vs) :=
  walk_spec (K := K) (CX := fun _ => CX) (sp := fun w => sp (K w.params)) hwell hdf hlen hr hY F (fun w H xs a h1 h2 h3 h4 => hsp (K w.params) H xs a h1 h2 h3 h4) fun _ H s e s' => hCX H s e s'
end L2
-- rests on (row put in by the clerk, for the bench that shows a file only what it spells): KE.SpHead KE.OsShapes
end

/-! SHORT WORDS over the layer: a def of the text, its body, what a loop and a test want. -/
namespace L2
open PySem PySem.Spec PyProof.Rows

/-! ### the text by places -/
/-- the j-th statement of a class's body -/
def inClass (s : Stmt) (j : Nat) : Stmt := match s with
  | .ClassDef _ _ _ body _ _ _ _ _ _ _ => body.getD j (.Pass ⟨0, 0, 0, 0⟩)
  | _ => .Pass ⟨0, 0, 0, 0⟩
def defArgs (s : Stmt) : Arguments := match s with
  | .FunctionDef _ a _ _ _ _ _ _ _ _ => a
  | _ => { posonlyargs := [], args := [], vararg := none, kwonlyargs := [], kw_defaults := [], kwarg := none, defaults := [] }
def defBody (s : Stmt) : List Stmt := match s with
  | .FunctionDef _ _ b _ _ _ _ _ _ _ => b
  | _ => []
def defScope (s : Stmt) : Scope := match s with
  | .FunctionDef _ _ _ _ _ _ sc _ _ _ => sc
  | _ => { kind := .function, names := [], isGenerator := false, isCoroutine := false }

/-! ### no exception leaves a def -/
abbrev CX0 : CXT := fun _ _ _ _ _ _ => False
abbrev E0 : XK := fun _ _ _ => False
theorem pass0 {X : Cx} : Passes CX0 X E0 := fun _ _ _ _ _ _ _ h => h.elim

/-! ### a def (or method) of the text as it stands behind the top -/
structure Fun (K : PySem.W.Frag) (x qual : Str) (st : Stmt) (f : Addr) (fd : FuncData) : Prop where
  ex : ∃ (oc : Value) (od : Option Addr) (kV doc pm : Value) (an : Option Addr) (cdv ct : Value) (osl : Array (Option Value)),
    fd = PySem.W.fnOf x qual (defArgs st) (defBody st) (defScope st) .none kV doc pm an cdv ct ∧ K.lookup f = some ⟨oc, od, .func fd, osl⟩ ∧ PySem.W.codeIn K cdv qual = true
  kp : PySem.W.keepIn K (.ref f) = true
section
variable {P : Program} {w : World} {K : PySem.W.Frag} {mg : Str → Option Value} {base : Heap}
/-- THE RULE for a def: its body as a term of rules, and the reading of that term -/
theorem Fun.ok {x qual : Str} {st : Stmt} {f : Addr} {fd : FuncData} {N ps : List Str} {k : Nat} {sp : Sp} (F : Fun K x qual st f fd) (S : FnScope N ps (defScope st)) (len : ∀ vs H Q E, sp vs H Q E → vs.length = ps.length)
    (hbody : ∀ (cdv : Value) (A : Around) (outer : List Env) (s : Shared) (H : Hp) (vs : List V) (Q : VK) (E : XK), Room k (A.deeper (envOfC qual (defScope st) s.heap.objs.size f cdv)) → sp vs H Q E →
      ∃ t, PSs (cxOf CX0 P w K mg base N qual (defScope st) f cdv A outer s H E).nox (defBody st) t ∧ t { nx := fun _ H' => Q .non H', rt := Q } (start N vs) H) : FnOk P w K mg base CX0 (k + 1) f fd ps sp := by
  obtain ⟨oc, od, kV, doc, pm, an, cdv, ct, osl, rfl, lk, hcd⟩ := F.ex
  refine fn_of lk hcd S len fun A outer s H vs Q E hr hsp => ?_
  obtain ⟨t, h, q⟩ := hbody cdv A outer s H vs Q E hr hsp
  exact ⟨t, h.nox, q⟩
/-- how its arguments bind (no defaults): h is «fun _ _ _ _ _ _ us hl => match us, hl with | [_, _], _ => rfl», one _ a parameter -/
theorem Fun.binds {x qual : Str} {st : Stmt} {f : Addr} {fd : FuncData} {ps : List Str} (F : Fun K x qual st f fd)
    (h : ∀ (kV doc pm : Value) (an : Option Addr) (cdv ct : Value) (us : List Value), us.length = ps.length → bindArgs (PySem.W.fnOf x qual (defArgs st) (defBody st) (defScope st) .none kV doc pm an cdv ct) ⟨us, []⟩ = pure (ps.zip us)) : Binds K fd ps [] := by
  obtain ⟨oc, od, kV, doc, pm, an, cdv, ct, osl, rfl, lk, hcd⟩ := F.ex
  exact .all (h kV doc pm an cdv ct)
theorem fun_mk {x qual : Str} {st : Stmt} {f : Addr} {oc : Value} {od an : Option Addr} {osl : Array (Option Value)} {kV doc pm cdv ct : Value} (l : K.lookup f = some ⟨oc, od, .func (PySem.W.fnOf x qual (defArgs st) (defBody st) (defScope st) .none kV doc pm an cdv ct), osl⟩)
    (c : PySem.W.codeIn K cdv qual = true) (k : PySem.W.keepIn K (.ref f) = true) : Fun K x qual st f (PySem.W.fnOf x qual (defArgs st) (defBody st) (defScope st) .none kV doc pm an cdv ct) := ⟨⟨oc, od, kV, doc, pm, an, cdv, ct, osl, rfl, l, c⟩, k⟩
end
theorem hu_of {A : Around} {k : Nat} (hr : Room k A) : A.units + 1 < cLine := Nat.lt_of_le_of_lt (Nat.add_le_add_left (by decide : 1 ≤ 64) _) hr.units
theorem small1000 {n : Nat} (h : n ≤ 1000) : n < sizeLine := Nat.lt_of_le_of_lt h (by decide)

/-! ### expressions in short: the name that stands in the i-th slot -/
section
variable {X : Cx}
theorem pv (i : Nat) {x : Str} {pos : Pos} (hN : X.N[i]? = some x := by rfl) (hv : Vis X.env.scope x := by first | exact Or.inl rfl | exact Or.inr (Or.inl rfl) | exact Or.inr (Or.inr rfl)) (hd : (x == ("__debug__" : Str)) = false := by decide)
    (hcd : (x == ("__classdict__" : Str)) = false := by decide) : PE X (.Name x pos) (tVar i) := pe_var hN hv hd hcd
/-- len of a dict -/
theorem call_lenD : CallR X (.builtin "len") (fun xs H Q => ∃ a kvs, xs = [V.ref a] ∧ H a = some (.dK kvs) ∧ Q (.int kvs.length) H) := by
  intro pins s σ H xs us Q I r h
  obtain ⟨a, kvs, rfl, ha, q⟩ := h
  obtain ⟨u, rfl, ru⟩ := vals1 r
  cases ru
  exact d_len I (.inl ha) fun t s' I' => ⟨.int kvs.length, H, I', ⟨t, rfl⟩, q⟩
end

/-! ### tests -/
theorem iteF {A B : Prop} (h : B) : if false = true then A else B := by
  rw [if_neg Bool.false_ne_true]
  exact h
theorem iteT {A B : Prop} (h : A) : if true = true then A else B := by
  rw [if_pos rfl]
  exact h
theorem ite2 {c A B : Prop} [Decidable c] (h1 : c → A) (h2 : ¬ c → B) : if c then A else B := by
  by_cases h : c
  · rw [if_pos h]
    exact h1 h
  · rw [if_neg h]
    exact h2 h
/-! ### heaps -/
/-- all that was tracked is as it was -/
def Same (H H' : Hp) : Prop := ∀ b o, H b = some o → H' b = some o
theorem Same.refl (H : Hp) : Same H H := fun _ _ h => h
theorem Same.trans {H H1 H2 : Hp} (a : Same H H1) (b : Same H1 H2) : Same H H2 := fun c o h => b c o (a c o h)
theorem Same.free {H H' : Hp} (e : Same H H') {l : Addr} (h : H' l = Option.none) : H l = Option.none := by
  cases q : H l with
  | none => rfl
  | some o =>
    rw [e l o q] at h
    cases h
theorem Same.seq {K : PySem.W.Frag} {H H' : Hp} {a : Addr} {xs : List V} (e : Same H H') (h : SqL K H a xs) : SqL K H' a xs := by
  rcases h with (h | ⟨o, h⟩) | h
  · exact .inl (.inl (e _ _ h))
  · exact .inl (.inr ⟨o, e _ _ h⟩)
  · exact .inr h

/-! ### a dict's pairs: keys that differ -/
section
variable {κ : Type} [DecidableEq κ]
theorem valV_not {kvs : List (κ × V)} {k : κ} (h : valV kvs k = none) : ¬ k ∈ kvs.map (·.1) := by
  intro m
  obtain ⟨p, hp, e⟩ := List.mem_map.mp m
  have q : (kvs.any fun kv => decide (kv.1 = k)) = true := List.any_eq_true.mpr ⟨p, hp, decide_eq_true e⟩
  rw [valV_any, h] at q
  exact absurd q (by simp)
theorem valV_in {kvs : List (κ × V)} {k : κ} {v : V} (h : valV kvs k = some v) : k ∈ kvs.map (·.1) := by
  have q : (kvs.any fun kv => decide (kv.1 = k)) = true := by
    rw [valV_any, h]
    all_goals rfl
  obtain ⟨p, hp, e⟩ := List.any_eq_true.mp q
  exact List.mem_map.mpr ⟨p, hp, of_decide_eq_true e⟩
end
/-! ### lists -/
/-- a new instance and its __init__ leave all that was tracked as it was -/
theorem Same.made {H H1 : Hp} {x dx C : Addr} (nx : H x = Option.none) (nd : H dx = Option.none) (k : ∀ b o, (upd (upd H dx (.own x)) x (.ins C dx [])) b = some o → b ≠ x → H1 b = some o) : Same H H1 := fun b o e =>
  k b o (by rw [upd_ne (ne_of_none e nx), upd_ne (ne_of_none e nd)]; exact e) (ne_of_none e nx)
end L2

section
set_option linter.all false
namespace Fc
open Kqb1 (Piece Sheet)

/-! ### slots: a dict number to thing against a list of options -/
structure Slots {α : Type} (d : List (Nat × α)) (l : List (Option α)) : Prop where
  nd : (d.map (·.1)).Nodup
  mem : ∀ n x, (n, x) ∈ d ↔ l[n]? = some (some x)
  len : d.length = Kqb1.count l

theorem count_nil {α : Type} : Kqb1.count ([] : List (Option α)) = 0 := rfl
theorem count_cons {α : Type} (o : Option α) (l : List (Option α)) : Kqb1.count (o :: l) = (if o.isSome then 1 else 0) + Kqb1.count l := by
  cases o with
  | none => simp [Kqb1.count]
  | some x => simp [Kqb1.count]; omega
theorem count_append {α : Type} (l m : List (Option α)) : Kqb1.count (l ++ m) = Kqb1.count l + Kqb1.count m := by
  simp [Kqb1.count]
theorem count_set_some {α : Type} (x : α) : ∀ (l : List (Option α)) (n : Nat), l[n]? = some none → Kqb1.count (l.set n (some x)) = Kqb1.count l + 1
  | [], n, h => by simp at h
  | o :: l, 0, h => by
    have e : o = none := by simpa using h
    subst e
    rw [List.set_cons_zero, count_cons, count_cons]; simp; omega
  | o :: l, n + 1, h => by
    have h' : l[n]? = some none := by simpa using h
    rw [List.set_cons_succ, count_cons, count_cons, count_set_some x l n h']; omega
theorem count_set_none {α : Type} {x : α} : ∀ (l : List (Option α)) (n : Nat), l[n]? = some (some x) → Kqb1.count (l.set n none) + 1 = Kqb1.count l
  | [], n, h => by simp at h
  | o :: l, 0, h => by
    have e : o = some x := by simpa using h
    subst e
    rw [List.set_cons_zero, count_cons, count_cons]; simp; omega
  | o :: l, n + 1, h => by
    have h' : l[n]? = some (some x) := by simpa using h
    have := count_set_none l n h'
    rw [List.set_cons_succ, count_cons, count_cons]; omega
/-- the least number that is free -/
theorem slot_eq {α : Type} : ∀ (l : List (Option α)) (n : Nat), (∀ x, l[n]? ≠ some (some x)) → (∀ m, m < n → ∃ x, l[m]? = some (some x)) → Kqb1.slot l = n
  | [], 0, _, _ => rfl
  | [], n + 1, _, h => by
    obtain ⟨x, e⟩ := h 0 (by omega)
    simp at e
  | o :: l, 0, h, _ => by
    cases o with
    | none => simp [Kqb1.slot, List.findIdx?_cons]
    | some x => exact absurd rfl (h x)
  | o :: l, n + 1, h, h' => by
    obtain ⟨x, e⟩ := h' 0 (by omega)
    have e' : o = some x := by simpa using e
    subst e'
    have ih := slot_eq l n (fun x => by simpa using h x) (fun m hm => by simpa using h' (m + 1) (by omega))
    unfold Kqb1.slot at ih ⊢
    rw [List.findIdx?_cons]
    simp only [Option.isNone_some, Bool.false_eq_true, if_false]
    cases q : List.findIdx? Option.isNone l with
    | none => rw [q] at ih; simp at ih ⊢; exact ih
    | some k => rw [q] at ih; simp at ih ⊢; exact ih
theorem slot_le {α : Type} : ∀ (l : List (Option α)), Kqb1.slot l ≤ l.length
  | [] => by simp [Kqb1.slot]
  | o :: l => by
    have ih := slot_le l
    unfold Kqb1.slot at ih ⊢
    rw [List.findIdx?_cons]
    cases o with
    | none => simp
    | some x =>
      simp only [Option.isNone_some, Bool.false_eq_true, if_false]
      cases q : List.findIdx? Option.isNone l with
      | none => simp
      | some k => rw [q] at ih; simp at ih ⊢; omega
theorem slot_none {α : Type} : ∀ (l : List (Option α)), Kqb1.slot l < l.length → l[Kqb1.slot l]? = some none
  | [], h => by simp at h
  | o :: l, h => by
    have ih := slot_none l
    unfold Kqb1.slot at ih h ⊢
    rw [List.findIdx?_cons] at h ⊢
    cases o with
    | none => simp
    | some x =>
      simp only [Option.isNone_some, Bool.false_eq_true, if_false] at h ⊢
      cases q : List.findIdx? Option.isNone l with
      | none => rw [q] at h; simp at h
      | some k =>
        rw [q] at ih h
        simp at ih h ⊢
        exact ih h
theorem putIn_get {α : Type} (l : List (Option α)) (x : α) (m : Nat) : (Kqb1.putIn l x)[m]? = if m = Kqb1.slot l then some (some x) else l[m]? := by
  unfold Kqb1.putIn
  have hle := slot_le l
  by_cases h : Kqb1.slot l < l.length
  · rw [if_pos h, List.getElem?_set]
    by_cases e : Kqb1.slot l = m
    · subst e; simp [h]
    · rw [if_neg e, if_neg (fun q => e q.symm)]
  · have e : Kqb1.slot l = l.length := by omega
    rw [if_neg h, e]
    by_cases q : m = l.length
    · subst q; simp
    · rw [if_neg q, List.getElem?_append]
      by_cases h2 : m < l.length
      · rw [if_pos h2]
      · rw [if_neg h2, List.getElem?_eq_none (by simp; omega), List.getElem?_eq_none (by omega)]
theorem putIn_count {α : Type} (l : List (Option α)) (x : α) : Kqb1.count (Kqb1.putIn l x) = Kqb1.count l + 1 := by
  unfold Kqb1.putIn
  by_cases h : Kqb1.slot l < l.length
  · rw [if_pos h, count_set_some x l _ (slot_none l h)]
  · rw [if_neg h, count_append]; rfl
theorem count_le {α : Type} (l : List (Option α)) : Kqb1.count l ≤ l.length := by
  induction l with
  | nil => simp [count_nil]
  | cons o l ih => rw [count_cons, List.length_cons]; split <;> omega

section
variable {α : Type} {d : List (Nat × α)} {l : List (Option α)}
theorem Slots.nil : Slots ([] : List (Nat × α)) [] := ⟨List.nodup_nil, fun n x => by simp, rfl⟩
theorem Slots.key (S : Slots d l) {n : Nat} : n ∈ d.map (·.1) ↔ ∃ x, l[n]? = some (some x) := by
  constructor
  · intro h
    obtain ⟨⟨k, x⟩, h1, h2⟩ := List.mem_map.mp h
    have e : k = n := h2
    subst e
    exact ⟨x, (S.mem _ _).mp h1⟩
  · rintro ⟨x, h⟩
    exact List.mem_map.mpr ⟨(n, x), (S.mem _ _).mpr h, rfl⟩
/-- n is the least number that is no key -/
theorem Slots.least (S : Slots d l) {n : Nat} (h : n ∉ d.map (·.1)) (h' : ∀ m, m < n → m ∈ d.map (·.1)) : Kqb1.slot l = n :=
  slot_eq l n (fun x e => h (S.key.mpr ⟨x, e⟩)) fun m hm => S.key.mp (h' m hm)
theorem Slots.fresh (S : Slots d l) : Kqb1.slot l ∉ d.map (·.1) := fun h => by
  obtain ⟨x, e⟩ := S.key.mp h
  have hlt : Kqb1.slot l < l.length := by
    rcases Nat.lt_or_ge (Kqb1.slot l) l.length with h | h
    · exact h
    · rw [List.getElem?_eq_none h] at e; cases e
  rw [slot_none l hlt] at e
  cases e
theorem Slots.put (S : Slots d l) (x : α) : Slots (d ++ [(Kqb1.slot l, x)]) (Kqb1.putIn l x) := by
  refine ⟨?_, fun n y => ?_, ?_⟩
  · rw [List.map_append, List.nodup_append]
    refine ⟨S.nd, by simp, fun a ha b hb e => ?_⟩
    have e2 : b = Kqb1.slot l := by simpa using hb
    subst e2
    subst e
    exact S.fresh ha
  · rw [putIn_get, List.mem_append]
    by_cases e : n = Kqb1.slot l
    · subst e
      rw [if_pos rfl]
      constructor
      · rintro (h | h)
        · exact absurd (List.mem_map.mpr ⟨_, h, rfl⟩) S.fresh
        · have : y = x := by simpa using h
          rw [this]
      · intro h
        have : x = y := by simpa using h
        right; rw [this]; simp
    · rw [if_neg e, ← S.mem]
      constructor
      · rintro (h | h)
        · exact h
        · exact absurd (by simpa using h : n = Kqb1.slot l ∧ y = x).1 e
      · exact .inl
  · rw [putIn_count, List.length_append, S.len]; rfl
theorem Slots.drop (S : Slots d l) {n : Nat} {x : α} (h : l[n]? = some (some x)) : Slots (d.filter fun q => decide (q.1 ≠ n)) (l.set n none) := by
  have hc := count_set_none l n h
  have hm := (S.mem n x).mpr h
  refine ⟨?_, fun m y => ?_, ?_⟩
  · have : (d.filter fun q => decide (q.1 ≠ n)).map (·.1) = (d.map (·.1)).filter fun k => decide (k ≠ n) := by
      rw [List.filter_map]; rfl
    rw [this]
    exact S.nd.filter _
  · rw [List.mem_filter, List.getElem?_set]
    by_cases e : n = m
    · subst e
      rw [if_pos rfl]
      constructor
      · rintro ⟨_, q⟩; simp at q
      · intro q
        split at q <;> simp at q
    · rw [if_neg e, ← S.mem]
      simp [fun q => e (Eq.symm q)]
      intro _ q; exact absurd q.symm e
  · have hlen : ∀ (d : List (Nat × α)), (d.map (·.1)).Nodup → (n, x) ∈ d → (d.filter fun q => decide (q.1 ≠ n)).length + 1 = d.length := by
      intro d
      induction d with
      | nil => intro _ h; simp at h
      | cons q d ih =>
        intro nd hm
        rw [List.map_cons, List.nodup_cons] at nd
        by_cases e : q.1 = n
        · have hall : (d.filter fun q => decide (q.1 ≠ n)) = d := by
            rw [List.filter_eq_self]
            intro a ha
            have : a.1 ≠ n := fun z => nd.1 (by rw [e, ← z]; exact List.mem_map.mpr ⟨a, ha, rfl⟩)
            simp [this]
          rw [List.filter_cons, if_neg (by simp [e]), hall, List.length_cons]
        · have hm' : (n, x) ∈ d := by
            rcases List.mem_cons.mp hm with z | z
            · exact absurd (by rw [← z]) e
            · exact z
          rw [List.filter_cons, if_pos (by simp [e]), List.length_cons, List.length_cons, ih nd.2 hm']
    have := hlen d S.nd hm
    have := S.len
    omega
theorem Slots.any (S : Slots d l) (f : α → Bool) : (l.filterMap id).any f = d.any fun q => f q.2 := by
  rw [Bool.eq_iff_iff, List.any_eq_true, List.any_eq_true]
  constructor
  · rintro ⟨x, hx, hf⟩
    have : some x ∈ l := by simpa using hx
    obtain ⟨n, hn⟩ := List.getElem?_of_mem this
    exact ⟨(n, x), (S.mem _ _).mpr hn, hf⟩
  · rintro ⟨⟨n, x⟩, hx, hf⟩
    have := List.mem_of_getElem? ((S.mem _ _).mp hx)
    exact ⟨x, by simpa using this, hf⟩
theorem Slots.getD (S : Slots d l) {n : Nat} {x : α} : l.getD n none = some x ↔ (n, x) ∈ d := by
  rw [S.mem, List.getD_eq_getElem?_getD]
  cases h : l[n]? with
  | none => simp
  | some o => simp
theorem Slots.getD_none (S : Slots d l) {n : Nat} : (l.getD n none).isNone = true ↔ n ∉ d.map (·.1) := by
  rw [S.key, List.getD_eq_getElem?_getD]
  cases h : l[n]? with
  | none => simp
  | some o =>
    cases o with
    | none => simp
    | some y => simp
theorem Slots.key_lt (S : Slots d l) {n : Nat} (h : n ∈ d.map (·.1)) : n < l.length := by
  obtain ⟨x, e⟩ := S.key.mp h
  rcases Nat.lt_or_ge n l.length with h | h
  · exact h
  · rw [List.getElem?_eq_none h] at e; cases e
end
end Fc

end

section
set_option linter.all false
namespace Fc
open Kqb1 (Piece Sheet Web)

/-! ### stretches, by a scan -/
/-- where a stretch that begins at a ends, where F tells the free places below n -/
def endOf (F : Nat → Bool) (n a : Nat) : Nat := ((List.range (n + 1)).find? fun b => decide (a < b) && !(F b)).getD n
def starts (F : Nat → Bool) (n m : Nat) : List (Nat × Nat) := (List.range m).filterMap fun a => if F a && (a == 0 || !(F (a - 1))) then some (a, endOf F n a) else none
theorem stretches_starts (w : Web) (k : Nat) : Kqb1.stretches w k = starts (Kqb1.isFree w k) w.long w.long := rfl
theorem starts_succ (F : Nat → Bool) (n m : Nat) : starts F n (m + 1) = starts F n m ++ (if (F m && (m == 0 || !(F (m - 1)))) = true then [(m, endOf F n m)] else []) := by
  unfold starts
  rw [List.range_succ, List.filterMap_append]
  congr 1
  simp only [List.filterMap_cons, List.filterMap_nil]
  split <;> simp_all
theorem starts_len (F : Nat → Bool) (n : Nat) : ∀ m, (starts F n m).length ≤ m
  | 0 => by simp [starts]
  | m + 1 => by
    rw [starts_succ, List.length_append]
    have := starts_len F n m
    split <;> simp <;> omega
theorem find_range (p : Nat → Bool) : ∀ (m e : Nat), e < m → p e = true → (∀ i, i < e → p i = false) → (List.range m).find? p = some e := by
  intro m
  induction m with
  | zero => intro e h; omega
  | succ m ih =>
    intro e h he hlt
    rw [List.range_succ, List.find?_append]
    by_cases q : e < m
    · rw [ih e q he hlt]; rfl
    · have e' : e = m := by omega
      subst e'
      have : (List.range e).find? p = none := by
        rw [List.find?_eq_none]
        intro x hx
        rw [hlt x (List.mem_range.mp hx)]
        simp
      rw [this]
      simp [he]
theorem endOf_eq {F : Nat → Bool} {n a e : Nat} (hae : a < e) (hen : e ≤ n) (he : F e = false) (h : ∀ i, a < i → i < e → F i = true) : endOf F n a = e := by
  unfold endOf
  rw [find_range _ (n + 1) e (by omega) (by simp [hae, he]) (fun i hi => ?_)]
  · rfl
  · by_cases q : a < i
    · simp [h i q hi]
    · simp [q]
/-- what holds ahead of place p: all from b on are free, b is a beginning -/
structure Scan (F : Nat → Bool) (n p b : Nat) (found : List (Nat × Nat)) : Prop where
  le : b ≤ p
  free : ∀ i, b ≤ i → i < p → F i = true
  beg : b = 0 ∨ F (b - 1) = false
  eq : found = starts F n b
theorem Scan.zero (F : Nat → Bool) (n : Nat) : Scan F n 0 0 [] := ⟨Nat.le_refl 0, fun i _ h => by omega, .inl rfl, rfl⟩
theorem Scan.go {F : Nat → Bool} {n p b : Nat} {found : List (Nat × Nat)} (S : Scan F n p b found) (h : F p = true) : Scan F n (p + 1) b found :=
  ⟨by have := S.le; omega, fun i h1 h2 => by
    by_cases q : i = p
    · rw [q]; exact h
    · exact S.free i h1 (by omega), S.beg, S.eq⟩
theorem starts_free {F : Nat → Bool} {n b : Nat} : ∀ (k : Nat), (∀ i, b ≤ i → i ≤ b + k → F i = true) → starts F n (b + 1 + k) = starts F n (b + 1)
  | 0, _ => rfl
  | k + 1, h => by
    rw [show b + 1 + (k + 1) = (b + 1 + k) + 1 by omega, starts_succ, starts_free k (fun i h1 h2 => h i h1 (by omega)), if_neg, List.append_nil]
    have h1 : F (b + 1 + k - 1) = true := h _ (by omega) (by omega)
    have h2 : ((b + 1 + k) == 0) = false := by simp
    rw [h1, h2]; simp
theorem Scan.stop {F : Nat → Bool} {n p b : Nat} {found : List (Nat × Nat)} (S : Scan F n p b found) (hp : p ≤ n) (h : F p = false) : Scan F n (p + 1) (p + 1) (if b < p then found ++ [(b, p)] else found) := by
  refine ⟨Nat.le_refl _, fun i h1 h2 => by omega, .inr (by simpa using h), ?_⟩
  have e1 : starts F n (p + 1) = starts F n p := by rw [starts_succ, if_neg (by simp [h]), List.append_nil]
  rw [e1]
  by_cases q : b < p
  · rw [if_pos q, S.eq]
    have e2 : starts F n p = starts F n (b + 1) := by
      have := starts_free (F := F) (n := n) (b := b) (p - (b + 1)) (fun i h1 h2 => S.free i h1 (by omega))
      rw [← this]; congr 1; omega
    rw [e2, starts_succ, if_pos, endOf_eq q hp h (fun i h1 h2 => S.free i (by omega) h2)]
    have f1 : F b = true := S.free b (Nat.le_refl b) q
    rcases S.beg with z | z
    · subst z; simp [f1]
    · simp [f1, z]
  · have : b = p := by have := S.le; omega
    subst this
    rw [if_neg q, S.eq]
theorem Scan.last {F : Nat → Bool} {n : Nat} {found : List (Nat × Nat)} {b : Nat} (S : Scan F n (n + 1) b found) (h : F n = false) : found = starts F n n := by
  have hb : b = n + 1 := by
    have h1 := S.le
    rcases Nat.lt_or_ge b (n + 1) with q | q
    · have := S.free n (by omega) (by omega)
      rw [h] at this; cases this
    · omega
  rw [S.eq, hb, starts_succ, if_neg (by simp [h]), List.append_nil]
theorem starts_mem {F : Nat → Bool} {n m a e : Nat} (h : (a, e) ∈ starts F n m) (hF : F n = false) (hn : ∀ i, F i = true → i < n) : a < e ∧ e ≤ n ∧ F a = true ∧ ∀ i, a ≤ i → i < e → F i = true := by
  unfold starts at h
  rw [List.mem_filterMap] at h
  obtain ⟨x, hx, q⟩ := h
  split at q
  · rename_i hc
    simp at q
    obtain ⟨rfl, rfl⟩ := q
    have hfa : F x = true := by
      cases z : F x with
      | true => rfl
      | false => rw [z] at hc; simp at hc
    have hxn := hn x hfa
    unfold endOf
    cases z : (List.range (n + 1)).find? (fun b => decide (x < b) && !(F b)) with
    | none =>
      rw [List.find?_eq_none] at z
      have := z n (by simp)
      simp [hF, hxn] at this
    | some e =>
      have h1 := List.find?_some z
      have h2 := List.mem_of_find?_eq_some z
      simp at h1 h2
      refine ⟨h1.1, by simp; omega, hfa, fun i hi1 hi2 => ?_⟩
      simp at hi2
      cases y : F i with
      | true => rfl
      | false =>
        exfalso
        by_cases xi : i = x
        · rw [xi] at y; rw [y] at hfa; cases hfa
        · have hfind := z
          rw [List.find?_eq_some_iff_append] at hfind
          obtain ⟨_, as, bs, e1, e2⟩ := hfind
          have hmem : i ∈ as := by
            have hi : i ∈ List.range (n + 1) := by simp; omega
            rw [e1] at hi
            rcases List.mem_append.mp hi with g | g
            · exact g
            · exfalso
              have hs : (List.range (n+1)).Pairwise (· < ·) := List.pairwise_lt_range
              rw [e1, List.pairwise_append] at hs
              have hs2 := List.pairwise_cons.mp hs.2.1
              rcases List.mem_cons.mp g with g | g
              · omega
              · have := hs2.1 i g; omega
          have := e2 i hmem
          simp [y] at this
          omega
  · cases q

/-! ### the best -/
def bst (w : Web) (s m : Nat) : Nat × Nat := (List.range m).foldl (fun (b : Nat × Nat) x => if Kqb1.value w b ≤ Kqb1.value w (Kqb1.with_ w s x) then Kqb1.with_ w s x else b) (Kqb1.with_ w s 0)
theorem best_bst (w : Web) (s : Nat) : Kqb1.best w s = bst w s (s / w.short + 1) := rfl
theorem bst_succ (w : Web) (s m : Nat) : bst w s (m + 1) = if Kqb1.value w (bst w s m) ≤ Kqb1.value w (Kqb1.with_ w s m) then Kqb1.with_ w s m else bst w s m := by
  unfold bst
  rw [List.range_succ, List.foldl_append]
  rfl
/-- what the loop has chosen behind m turns -/
def chosen (w : Web) (s : Nat) : Nat → Nat × Nat × Nat
  | 0 => (0, 0, 0)
  | m + 1 => (Kqb1.value w (bst w s (m + 1)), (bst w s (m + 1)).1, (bst w s (m + 1)).2)
theorem chosen_succ (w : Web) (s m : Nat) : chosen w s (m + 1) = if (chosen w s m).1 ≤ m * w.worth0 + (s - m * w.short) / w.tall * w.worth1 then (m * w.worth0 + (s - m * w.short) / w.tall * w.worth1, m, (s - m * w.short) / w.tall) else chosen w s m := by
  have e : Kqb1.value w (Kqb1.with_ w s m) = m * w.worth0 + (s - m * w.short) / w.tall * w.worth1 := rfl
  cases m with
  | zero =>
    rw [if_pos (show (chosen w s 0).1 ≤ _ from Nat.zero_le _)]
    have : bst w s 1 = Kqb1.with_ w s 0 := by rw [bst_succ]; split <;> rfl
    show (Kqb1.value w (bst w s 1), _, _) = _
    rw [this]; rfl
  | succ m =>
    show (Kqb1.value w (bst w s (m + 2)), (bst w s (m + 2)).1, (bst w s (m + 2)).2) = _
    rw [bst_succ, ← e]
    show _ = if Kqb1.value w (bst w s (m + 1)) ≤ _ then _ else _
    split
    · rfl
    · rfl
theorem chosen_best (w : Web) (s : Nat) : chosen w s (s / w.short + 1) = (Kqb1.value w (Kqb1.best w s), (Kqb1.best w s).1, (Kqb1.best w s).2) := rfl
theorem bst_le (w : Web) (s : Nat) (h0 : 0 < w.short) (h1 : w.short < w.tall) : ∀ m, m ≤ s / w.short + 1 → (bst w s m).1 * w.short + (bst w s m).2 * w.tall ≤ s
  | 0, _ => by
    show 0 * w.short + (s - 0 * w.short) / w.tall * w.tall ≤ s
    have := Nat.div_mul_le_self s w.tall
    simp; exact this
  | m + 1, h => by
    rw [bst_succ]
    split
    · show m * w.short + (s - m * w.short) / w.tall * w.tall ≤ s
      have h2 : m * w.short ≤ s := by
        have h3 := Nat.div_mul_le_self s w.short
        have h4 : m * w.short ≤ s / w.short * w.short := Nat.mul_le_mul_right _ (by omega)
        omega
      have := Nat.div_mul_le_self (s - m * w.short) w.tall
      omega
    · exact bst_le w s h0 h1 m (by omega)
theorem best_le (w : Web) (s : Nat) (h0 : 0 < w.short) (h1 : w.short < w.tall) : (Kqb1.best w s).1 * w.short + (Kqb1.best w s).2 * w.tall ≤ s := by
  rw [best_bst]; exact bst_le w s h0 h1 _ (Nat.le_refl _)
end Fc

end

section
set_option linter.all false
namespace Fc
open Kqb1 (Piece Sheet Web)

/-! ### the program's web against the specification's -/
structure M where
  lanes : Nat
  long : Nat
  short : Nat
  tall : Nat
  w0 : Nat
  w1 : Nat
  faults : List (Nat × Piece)
  sheets : List (Nat × Sheet)
def M.size (m : M) (z : Nat) : Nat := if z = 0 then m.short else m.tall
def M.worth (m : M) (z : Nat) : Nat := if z = 0 then m.w0 else m.w1
structure Rel (m : M) (w : Web) : Prop where
  lanes : w.lanes = m.lanes
  long : w.long = m.long
  short : w.short = m.short
  tall : w.tall = m.tall
  worth0 : w.worth0 = m.w0
  worth1 : w.worth1 = m.w1
  faults : Slots m.faults w.faults
  sheets : Slots m.sheets w.sheets
/-- a place's fault, a place's sheet -/
def M.faulty (m : M) (k i : Nat) : Bool := m.faults.any fun q => q.2.lane == k && decide (q.2.from_ ≤ i) && decide (i < q.2.to)
def M.stamped (m : M) (k i : Nat) : Bool := m.sheets.any fun q => q.2.lane == k && decide (q.2.from_ ≤ i) && decide (i < q.2.from_ + m.size q.2.size)
/-- what holds of every web that was started -/
structure Good (m : M) : Prop where
  l1 : 1 ≤ m.lanes
  l3 : m.lanes ≤ 3
  n80 : m.long ≤ 80
  s1 : 1 ≤ m.short
  st : m.short < m.tall
  t60 : m.tall ≤ 60
  v0 : m.w0 ≤ 1000
  v1 : m.w1 ≤ 1000
  f8 : m.faults.length ≤ 8
  s30 : m.sheets.length ≤ 30
  fl : ∀ q ∈ m.faults, q.2.lane < m.lanes ∧ q.2.from_ < q.2.to ∧ q.2.to ≤ m.long
  sl : ∀ q ∈ m.sheets, q.2.lane < m.lanes ∧ q.2.size ≤ 1 ∧ q.2.from_ + m.size q.2.size ≤ m.long
  dj : ∀ k i, m.faulty k i = true → m.stamped k i = false
theorem Good.size_pos {m : M} (G : Good m) (z : Nat) : 1 ≤ m.size z := by
  unfold M.size; have := G.s1; have := G.st; split <;> omega
theorem Good.size_le {m : M} (G : Good m) (z : Nat) : m.size z ≤ 60 := by
  unfold M.size; have := G.t60; have := G.st; split <;> omega
theorem Good.worth_le {m : M} (G : Good m) (z : Nat) : m.worth z ≤ 1000 := by
  unfold M.worth; have := G.v0; have := G.v1; split <;> omega

section
variable {m : M} {w : Web}
theorem Rel.size (R : Rel m w) (z : Nat) : Kqb1.sizeOf_ w z = m.size z := by
  unfold Kqb1.sizeOf_ M.size; rw [R.short, R.tall]
theorem Rel.wrth (R : Rel m w) (z : Nat) : Kqb1.worth w z = m.worth z := by
  unfold Kqb1.worth M.worth; rw [R.worth0, R.worth1]
def M.free (m : M) (k i : Nat) : Bool := decide (i < m.long) && !(m.faulty k i || m.stamped k i)
theorem Rel.faulty (R : Rel m w) (k i : Nat) : Kqb1.faulty w k i = m.faulty k i := by
  unfold Kqb1.faulty M.faulty
  rw [R.faults.any]; rfl
theorem Rel.stamped (R : Rel m w) (k i : Nat) : Kqb1.stamped w k i = m.stamped k i := by
  unfold Kqb1.stamped M.stamped
  rw [List.any_map, R.sheets.any]
  congr 1
  funext q
  show (q.2.lane == k && _ && decide (i < q.2.from_ + Kqb1.sizeOf_ w q.2.size)) = _
  rw [R.size]; rfl
theorem Rel.free (R : Rel m w) (k i : Nat) : Kqb1.isFree w k i = m.free k i := by
  unfold Kqb1.isFree M.free
  rw [R.long, ← R.faulty, ← R.stamped]
  unfold Kqb1.taken Kqb1.faulty Kqb1.stamped
  rw [List.any_append]
theorem Rel.freeF (R : Rel m w) (k : Nat) : Kqb1.isFree w k = m.free k := funext (R.free k)
theorem M.free_lt {m : M} {k i : Nat} (h : m.free k i = true) : i < m.long := by
  unfold M.free at h; simp at h; exact h.1
theorem M.free_long (m : M) (k : Nat) : m.free k m.long = false := by
  unfold M.free; simp

/-! ### stretches -/
def M.stretches (m : M) (k : Nat) : List (Nat × Nat) := starts (m.free k) m.long m.long
theorem Rel.stretches (R : Rel m w) (k : Nat) : Kqb1.stretches w k = m.stretches k := by
  rw [stretches_starts, R.freeF, R.long]; rfl
theorem M.stretches_mem {m : M} {k a e : Nat} (h : (a, e) ∈ m.stretches k) : a < e ∧ e ≤ m.long ∧ ∀ i, a ≤ i → i < e → m.free k i = true := by
  have := starts_mem h (m.free_long k) (fun i => M.free_lt)
  exact ⟨this.1, this.2.1, this.2.2.2⟩
theorem M.stretches_len (m : M) (k : Nat) : (m.stretches k).length ≤ m.long := starts_len _ _ _

/-! ### the best, by the same turns -/
def M.pick (m : M) (s : Nat) : Nat → Nat × Nat × Nat
  | 0 => (0, 0, 0)
  | x + 1 => if (m.pick s x).1 ≤ x * m.w0 + (s - x * m.short) / m.tall * m.w1 then (x * m.w0 + (s - x * m.short) / m.tall * m.w1, x, (s - x * m.short) / m.tall) else m.pick s x
def M.best (m : M) (s : Nat) : Nat × Nat × Nat := m.pick s (s / m.short + 1)
theorem Rel.pick (R : Rel m w) (s : Nat) : ∀ x, chosen w s x = m.pick s x
  | 0 => rfl
  | x + 1 => by
    rw [chosen_succ, Rel.pick R s x, R.worth0, R.worth1, R.short, R.tall]; rfl
theorem Rel.best (R : Rel m w) (s : Nat) : m.best s = (Kqb1.value w (Kqb1.best w s), (Kqb1.best w s).1, (Kqb1.best w s).2) := by
  rw [← chosen_best, R.pick]
  unfold M.best
  rw [R.short]
theorem Rel.best1 (R : Rel m w) (s : Nat) : Kqb1.value w (Kqb1.best w s) = (m.best s).1 := by rw [R.best]
theorem Rel.best2 (R : Rel m w) (s : Nat) : (Kqb1.best w s).1 = (m.best s).2.1 := by rw [R.best]
theorem Rel.best3 (R : Rel m w) (s : Nat) : (Kqb1.best w s).2 = (m.best s).2.2 := by rw [R.best]
theorem Rel.fit (R : Rel m w) (G : Good m) (s : Nat) : (m.best s).2.1 * m.short + (m.best s).2.2 * m.tall ≤ s := by
  rw [← R.best2, ← R.best3, ← R.short, ← R.tall]
  exact best_le w s (by rw [R.short]; exact G.s1) (by rw [R.short, R.tall]; exact G.st)
theorem M.best_val (m : M) (s : Nat) : (m.best s).1 = (m.best s).2.1 * m.w0 + (m.best s).2.2 * m.w1 := by
  have : ∀ x, (m.pick s x).1 = (m.pick s x).2.1 * m.w0 + (m.pick s x).2.2 * m.w1 := by
    intro x
    induction x with
    | zero => simp [M.pick]
    | succ x ih => unfold M.pick; split <;> simp_all
  exact this _

/-! ### the plan -/
/-- n sheets of a size from a place on -/
def run (b len z : Nat) : Nat → List (Nat × Nat)
  | 0 => []
  | n + 1 => run b len z n ++ [(b + n * len, z)]
theorem run_eq (b len z n : Nat) : run b len z n = (List.range n).map fun i => (b + i * len, z) := by
  induction n with
  | zero => rfl
  | succ n ih => rw [List.range_succ, List.map_append, run, ih]; rfl
theorem run_len (b len z n : Nat) : (run b len z n).length = n := by rw [run_eq]; simp
def M.cuts (m : M) (p : Nat × Nat) : List (Nat × Nat) := run p.1 m.short 0 (m.best (p.2 - p.1)).2.1 ++ run (p.1 + (m.best (p.2 - p.1)).2.1 * m.short) m.tall 1 (m.best (p.2 - p.1)).2.2
def M.plan (m : M) (k : Nat) : List (Nat × Nat) := (m.stretches k).flatMap m.cuts
theorem Rel.plan (R : Rel m w) (k : Nat) : Kqb1.plan w k = m.plan k := by
  unfold Kqb1.plan M.plan Kqb1.lane
  rw [List.flatMap_map, R.stretches]
  congr 1
  funext p
  unfold M.cuts
  rw [run_eq, run_eq, ← R.best2, ← R.best3, R.short, R.tall]
def M.laneWorth (m : M) (k : Nat) : Nat := ((m.stretches k).map fun p => (m.best (p.2 - p.1)).1).sum
theorem sum_eq (l : List Nat) : Kqb1.sum l = l.sum := rfl
theorem Rel.laneWorth (R : Rel m w) (k : Nat) : Kqb1.laneValue w k = m.laneWorth k := by
  unfold Kqb1.laneValue M.laneWorth Kqb1.lane
  rw [sum_eq, List.map_map, R.stretches]
  congr 2
  funext p
  show Kqb1.value w (Kqb1.best w (p.2 - p.1)) = _
  rw [R.best1]
theorem sum_run (m : M) (b len z n : Nat) : ((run b len z n).map fun q => m.worth q.2).sum = n * m.worth z := by
  induction n with
  | zero => simp [run]
  | succ n ih => rw [run, List.map_append, List.sum_append, ih]; simp [Nat.add_mul]
theorem sum_plan (m : M) (k : Nat) : ((m.plan k).map fun q => m.worth q.2).sum = m.laneWorth k := by
  unfold M.plan M.laneWorth
  induction m.stretches k with
  | nil => rfl
  | cons p l ih =>
    rw [List.flatMap_cons, List.map_append, List.sum_append, ih, List.map_cons, List.sum_cons]
    congr 1
    unfold M.cuts
    rw [List.map_append, List.sum_append, sum_run, sum_run, M.best_val]
    rfl
def M.total (m : M) : Nat := ((List.range m.lanes).map m.laneWorth).sum
theorem Rel.total (R : Rel m w) : Kqb1.total w = m.total := by
  unfold Kqb1.total M.total
  rw [sum_eq, R.lanes]
  congr 2
  funext k; exact R.laneWorth k
def M.alone (m : M) (z : Nat) : Nat := ((List.range m.lanes).map fun k => ((m.stretches k).map fun p => (p.2 - p.1) / m.size z).sum).sum
theorem Rel.alone (R : Rel m w) (z : Nat) : Kqb1.alone w z = m.alone z := by
  unfold Kqb1.alone M.alone
  rw [sum_eq, R.lanes]
  congr 2
  funext k
  rw [sum_eq, R.stretches]
  congr 2
  funext p
  rw [R.size]

/-! ### lengths -/
theorem M.best_bound {m : M} (G : Good m) (s : Nat) : (m.best s).2.1 ≤ s ∧ (m.best s).2.2 ≤ s := by
  have h1 := G.s1
  have h2 := G.st
  have : ∀ x, x ≤ s / m.short + 1 → (m.pick s x).2.1 ≤ s ∧ (m.pick s x).2.2 ≤ s := by
    intro x
    induction x with
    | zero => intro _; simp [M.pick]
    | succ x ih =>
      intro hx
      unfold M.pick
      split
      · refine ⟨?_, ?_⟩
        · have := Nat.div_le_self s m.short
          show x ≤ s; omega
        · show (s - x * m.short) / m.tall ≤ s
          have := Nat.div_le_self (s - x * m.short) m.tall
          omega
      · exact ih (by omega)
  exact this _ (Nat.le_refl _)
theorem M.cuts_len {m : M} (G : Good m) (p : Nat × Nat) (h : p.2 ≤ 80) : (m.cuts p).length ≤ 160 := by
  unfold M.cuts
  rw [List.length_append, run_len, run_len]
  have := M.best_bound G (p.2 - p.1)
  omega
theorem flat_len {α β : Type} (f : α → List β) (c : Nat) : ∀ (l : List α), (∀ x ∈ l, (f x).length ≤ c) → (l.flatMap f).length ≤ l.length * c
  | [], _ => by simp
  | a :: l, h => by
    rw [List.flatMap_cons, List.length_append, List.length_cons, Nat.add_mul]
    have := h a (by simp)
    have := flat_len f c l (fun x hx => h x (by simp [hx]))
    omega
theorem M.plan_len {m : M} (G : Good m) (k : Nat) : (m.plan k).length ≤ 12800 := by
  have h1 := flat_len m.cuts 160 (m.stretches k) (fun p hp => by
    have := M.stretches_mem (a := p.1) (e := p.2) hp
    exact M.cuts_len G p (by have := G.n80; omega))
  have h2 := M.stretches_len m k
  have h3 := G.n80
  have : (m.stretches k).length * 160 ≤ 80 * 160 := Nat.mul_le_mul_right _ (by omega)
  unfold M.plan
  omega
/-! ### a stamped sheet within -/
theorem M.lies {m : M} (G : Good m) (k a b : Nat) (h : a < b) : ((List.range (b - a)).any fun i => m.stamped k (a + i)) = m.sheets.any fun q => q.2.lane == k && (decide (q.2.from_ < b) && decide (a < q.2.from_ + m.size q.2.size)) := by
  rw [Bool.eq_iff_iff, List.any_eq_true, List.any_eq_true]
  constructor
  · rintro ⟨i, hi, hs⟩
    unfold M.stamped at hs
    rw [List.any_eq_true] at hs
    obtain ⟨q, hq, e⟩ := hs
    simp at e hi
    refine ⟨q, hq, ?_⟩
    simp
    omega
  · rintro ⟨q, hq, e⟩
    simp at e
    have hz := G.size_pos q.2.size
    refine ⟨if q.2.from_ ≤ a then 0 else q.2.from_ - a, ?_, ?_⟩
    · rw [List.mem_range]; split <;> omega
    · unfold M.stamped
      rw [List.any_eq_true]
      refine ⟨q, hq, ?_⟩
      simp
      split <;> omega
end
end Fc

end

section
set_option linter.all false
namespace Fc
open Kqb1Neutral (S Call_ asked1 callOf)

/-- how many numbers stand behind each call's own -/
def behind : List Int := [6, 1, 3, 1, 1, 1, 1, 1, 0, 1, 3, 3, 3, 1, 1, 1, 0, 1, 0, 0]
theorem shape_of {p : Int} {q : Nat × Nat} (h : PyKqb1.shape p = some q) : q.2 = 0 ∧ 0 ≤ p ∧ p ≤ 19 ∧ behind[p.toNat]? = some (q.1 : Int) := by
  by_cases hp : 0 ≤ p ∧ p ≤ 19
  · obtain ⟨k, rfl⟩ : ∃ k : Nat, p = (k : Int) := ⟨p.toNat, by omega⟩
    have hk : k = 0 ∨ k = 1 ∨ k = 2 ∨ k = 3 ∨ k = 4 ∨ k = 5 ∨ k = 6 ∨ k = 7 ∨ k = 8 ∨ k = 9 ∨ k = 10 ∨ k = 11 ∨ k = 12 ∨ k = 13 ∨ k = 14 ∨ k = 15 ∨ k = 16 ∨ k = 17 ∨ k = 18 ∨ k = 19 := by omega
    rcases hk with rfl | rfl | rfl | rfl | rfl | rfl | rfl | rfl | rfl | rfl | rfl | rfl | rfl | rfl | rfl | rfl | rfl | rfl | rfl | rfl <;>
      (change some _ = some q at h; cases h; exact ⟨rfl, by decide, by decide, rfl⟩)
  · exfalso
    unfold PyKqb1.shape at h
    iterate 20 rw [if_neg (by omega)] at h
    cases h
theorem len0 {ns : List Int} (h : ns.length = 0) : ns = [] := List.length_eq_zero_iff.mp h
theorem len1 {ns : List Int} (h : ns.length = 1) : ∃ a, ns = [a] := List.length_eq_one_iff.mp h
theorem len3 : ∀ {ns : List Int}, ns.length = 3 → ∃ a b c, ns = [a, b, c]
  | [a, b, c], _ => ⟨a, b, c, rfl⟩
theorem len6 : ∀ {ns : List Int}, ns.length = 6 → ∃ a b c d e g, ns = [a, b, c, d, e, g]
  | [a, b, c, d, e, g], _ => ⟨a, b, c, d, e, g, rfl⟩
theorem num_of {n N : Nat} (h : some (N : Int) = some (n : Int)) : n = N := by
  have := Option.some.inj h
  omega
theorem whole_nat : ∀ {k n : Nat} {ns : List Int}, k ≤ 19 → behind[k]? = some (n : Int) → ns.length = n → PyKqb1.whole [(k : Int) :: ns] = [(k : Int) :: ns]
  | 0, n, ns, _, hb, hl => by
    have e := num_of (N := 6) hb
    subst e
    obtain ⟨a, b, c, d, e, g, rfl⟩ := len6 hl
    rfl
  | 1, n, ns, _, hb, hl => by
    have e := num_of (N := 1) hb
    subst e
    obtain ⟨a, rfl⟩ := len1 hl
    rfl
  | 2, n, ns, _, hb, hl => by
    have e := num_of (N := 3) hb
    subst e
    obtain ⟨a, b, c, rfl⟩ := len3 hl
    rfl
  | 3, n, ns, _, hb, hl => by
    have e := num_of (N := 1) hb
    subst e
    obtain ⟨a, rfl⟩ := len1 hl
    rfl
  | 4, n, ns, _, hb, hl => by
    have e := num_of (N := 1) hb
    subst e
    obtain ⟨a, rfl⟩ := len1 hl
    rfl
  | 5, n, ns, _, hb, hl => by
    have e := num_of (N := 1) hb
    subst e
    obtain ⟨a, rfl⟩ := len1 hl
    rfl
  | 6, n, ns, _, hb, hl => by
    have e := num_of (N := 1) hb
    subst e
    obtain ⟨a, rfl⟩ := len1 hl
    rfl
  | 7, n, ns, _, hb, hl => by
    have e := num_of (N := 1) hb
    subst e
    obtain ⟨a, rfl⟩ := len1 hl
    rfl
  | 8, n, ns, _, hb, hl => by
    have e := num_of (N := 0) hb
    subst e
    obtain rfl := len0 hl
    rfl
  | 9, n, ns, _, hb, hl => by
    have e := num_of (N := 1) hb
    subst e
    obtain ⟨a, rfl⟩ := len1 hl
    rfl
  | 10, n, ns, _, hb, hl => by
    have e := num_of (N := 3) hb
    subst e
    obtain ⟨a, b, c, rfl⟩ := len3 hl
    rfl
  | 11, n, ns, _, hb, hl => by
    have e := num_of (N := 3) hb
    subst e
    obtain ⟨a, b, c, rfl⟩ := len3 hl
    rfl
  | 12, n, ns, _, hb, hl => by
    have e := num_of (N := 3) hb
    subst e
    obtain ⟨a, b, c, rfl⟩ := len3 hl
    rfl
  | 13, n, ns, _, hb, hl => by
    have e := num_of (N := 1) hb
    subst e
    obtain ⟨a, rfl⟩ := len1 hl
    rfl
  | 14, n, ns, _, hb, hl => by
    have e := num_of (N := 1) hb
    subst e
    obtain ⟨a, rfl⟩ := len1 hl
    rfl
  | 15, n, ns, _, hb, hl => by
    have e := num_of (N := 1) hb
    subst e
    obtain ⟨a, rfl⟩ := len1 hl
    rfl
  | 16, n, ns, _, hb, hl => by
    have e := num_of (N := 0) hb
    subst e
    obtain rfl := len0 hl
    rfl
  | 17, n, ns, _, hb, hl => by
    have e := num_of (N := 1) hb
    subst e
    obtain ⟨a, rfl⟩ := len1 hl
    rfl
  | 18, n, ns, _, hb, hl => by
    have e := num_of (N := 0) hb
    subst e
    obtain rfl := len0 hl
    rfl
  | 19, n, ns, _, hb, hl => by
    have e := num_of (N := 0) hb
    subst e
    obtain rfl := len0 hl
    rfl
  | k + 20, _, _, hk, _, _ => absurd hk (by omega)
theorem calls_cons {f : Nat} {p : Int} {r : List Int} {cs : List (List (List Int))} (h : PyFlat.calls PyKqb1.shape f (p :: r) = some cs) :
    ∃ (n : Nat) (f' : Nat) (cs' : List (List (List Int))), f = f' + 1 ∧ behind[p.toNat]? = some (n : Int) ∧ 0 ≤ p ∧ p ≤ 19 ∧ n ≤ r.length ∧ cs = [p :: r.take n] :: cs' ∧ PyFlat.calls PyKqb1.shape f' (r.drop n) = some cs' := by
  cases f with
  | zero => simp [PyFlat.calls] at h
  | succ f =>
    unfold PyFlat.calls at h
    cases hs : PyKqb1.shape p with
    | none => simp [PyFlat.call, hs] at h
    | some q =>
      obtain ⟨n, k⟩ := q
      obtain ⟨hk, h0, h1, h2⟩ := shape_of hs
      have hk : k = 0 := hk
      subst hk
      by_cases hl : r.length < n
      · simp [PyFlat.call, hs, hl] at h
      · simp [PyFlat.call, hs, hl, PyFlat.rows] at h
        cases hc : PyFlat.calls PyKqb1.shape f (r.drop n) with
        | none => rw [hc] at h; simp at h
        | some cs' =>
          rw [hc] at h
          simp at h
          exact ⟨n, f, cs', rfl, h2, h0, h1, by omega, h.symm, hc⟩
theorem calls_nil {f : Nat} {cs : List (List (List Int))} (h : PyFlat.calls PyKqb1.shape f [] = some cs) : cs = [] := by
  cases f <;> simp [PyFlat.calls] at h <;> first | exact h | exact h.symm
theorem whole_map : ∀ {f : Nat} {l : List Int} {cs : List (List (List Int))}, PyFlat.calls PyKqb1.shape f l = some cs → cs.map PyKqb1.whole = cs
  | f, [], cs, h => by
    rw [calls_nil h]
    rfl
  | f, p :: r, cs, h => by
    obtain ⟨n, f', cs', rfl, e1, e2, e3, e4, rfl, e6⟩ := calls_cons h
    rw [List.map_cons, whole_map e6]
    obtain ⟨k, rfl⟩ : ∃ k : Nat, p = (k : Int) := ⟨p.toNat, by omega⟩
    rw [whole_nat (k := k) (by omega) e1 (by rw [List.length_take]; omega)]
/-- ahead of place i: the machine stands at s, given was told -/
structure At (l : List Int) (i : Nat) (s : S) (given : List Int) : Prop where
  ex : ∃ f cs, PyFlat.calls PyKqb1.shape f (l.drop i) = some cs ∧ cs.all asked1 = true ∧ PyKqb1.answers l = given ++ PyFlat.told (PyFlat.played Kqb1Neutral.step s cs)
theorem At.start {l : List Int} (h : PyKqb1.answers_asked l = true) : At l 0 none [] ∧ (PyKqb1.answers l).length ≤ 10000000 := by
  unfold PyKqb1.answers_asked at h
  cases hc : PyFlat.calls PyKqb1.shape l.length l with
  | none => rw [hc] at h; simp at h
  | some raw =>
    rw [hc] at h
    dsimp only at h
    rw [whole_map hc] at h
    simp only [Bool.and_eq_true] at h
    obtain ⟨⟨⟨⟨h1, h2⟩, h3⟩, h4⟩, h5⟩ := h
    unfold Kqb1Neutral.asked at h4
    simp only [Bool.and_eq_true] at h4
    refine ⟨⟨l.length, raw, by simpa using hc, h4.1.2.1, ?_⟩, by simpa [PyFlat.short] using h5⟩
    show PyKqb1.answers l = [] ++ _
    unfold PyKqb1.answers PyKqb1.calls
    rw [hc]
    show PyFlat.told (PyFlat.played Kqb1Neutral.step Kqb1Neutral.start (raw.map PyKqb1.whole)) = _
    rw [whole_map hc]
    rfl
theorem At.last {l : List Int} {i : Nat} {s : S} {given : List Int} (A : At l i s given) (h : l.length ≤ i) : given = PyKqb1.answers l := by
  obtain ⟨f, cs, h1, h2, h3⟩ := A.ex
  rw [List.drop_eq_nil_of_le h] at h1
  have := calls_nil h1
  subst this
  rw [h3]
  simp [PyFlat.played, PyFlat.told]
theorem At.next {l : List Int} {i : Nat} {s : S} {given : List Int} (A : At l i s given) (h : i < l.length) :
    ∃ (p : Int) (n : Nat), l[i]? = some p ∧ 0 ≤ p ∧ p ≤ 19 ∧ behind[p.toNat]? = some (n : Int) ∧ i + 1 + n ≤ l.length ∧ asked1 [p :: (l.drop (i + 1)).take n] = true ∧
      At l (i + 1 + n) (Kqb1Neutral.step s [p :: (l.drop (i + 1)).take n]).1 (given ++ (((Kqb1Neutral.step s [p :: (l.drop (i + 1)).take n]).2.length : Int) :: (Kqb1Neutral.step s [p :: (l.drop (i + 1)).take n]).2)) := by
  obtain ⟨f, cs, h1, h2, h3⟩ := A.ex
  have hd : l.drop i = l[i] :: l.drop (i + 1) := List.drop_eq_getElem_cons h
  rw [hd] at h1
  obtain ⟨n, f', cs', _, e1, e2, e3, e4, rfl, e6⟩ := calls_cons h1
  have hlen : (l.drop (i + 1)).length = l.length - (i + 1) := List.length_drop
  rw [List.all_cons, Bool.and_eq_true] at h2
  refine ⟨l[i], n, by simp [h], e2, e3, e1, by omega, h2.1, ⟨f', cs', ?_, h2.2, ?_⟩⟩
  · rw [List.drop_drop] at e6
    exact e6
  · rw [h3]
    simp [PyFlat.played, PyFlat.told]
theorem At.len {l : List Int} {i : Nat} {s : S} {given : List Int} (A : At l i s given) : given.length ≤ (PyKqb1.answers l).length := by
  obtain ⟨f, cs, h1, h2, h3⟩ := A.ex
  rw [h3, List.length_append]
  omega
end Fc

end

section
set_option linter.all false
namespace Fc
open Kqb1Neutral (S Call_ asked1 callOf natural)
theorem nat32 {z : Int} (h : natural z 32 = true) : ∃ k : Nat, z = (k : Int) ∧ k ≤ 4294967295 := by
  unfold natural at h
  simp at h
  exact ⟨z.toNat, by omega, by omega⟩
/-- a start's numbers -/
theorem asked_start {ns : List Int} (h : asked1 [0 :: ns] = true) : ∃ a b c d e g : Nat, ns = [(a : Int), (b : Int), (c : Int), (d : Int), (e : Int), (g : Int)] := by
  match ns, h with
  | [], h => cases h
  | [_], h => cases h
  | [_, _], h => cases h
  | [_, _, _], h => cases h
  | [_, _, _, _], h => cases h
  | [_, _, _, _, _], h => cases h
  | [a, b, c, d, e, g], h =>
    have h : (natural a 32 && natural b 32 && natural c 32 && natural d 32 && natural e 32 && natural g 32) = true := h
    simp only [Bool.and_eq_true] at h
    obtain ⟨a', rfl, _⟩ := nat32 h.1.1.1.1.1
    obtain ⟨b', rfl, _⟩ := nat32 h.1.1.1.1.2
    obtain ⟨c', rfl, _⟩ := nat32 h.1.1.1.2
    obtain ⟨d', rfl, _⟩ := nat32 h.1.1.2
    obtain ⟨e', rfl, _⟩ := nat32 h.1.2
    obtain ⟨g', rfl, _⟩ := nat32 h.2
    exact ⟨a', b', c', d', e', g', rfl⟩
  | _ :: _ :: _ :: _ :: _ :: _ :: _ :: _, h => cases h
theorem list1 {ns : List Int} {k : Int} (h : asked1 [k :: ns] = true) (e0 : asked1 [[k]] = false) (e2 : ∀ a b r, asked1 [k :: a :: b :: r] = false) (e1 : ∀ a, asked1 [[k, a]] = natural a 32) : ∃ a : Nat, ns = [(a : Int)] := by
  match ns, h with
  | [], h => rw [e0] at h; cases h
  | [a], h =>
    rw [e1] at h
    obtain ⟨a', rfl, _⟩ := nat32 h
    exact ⟨a', rfl⟩
  | a :: b :: r, h => rw [e2] at h; cases h
theorem list3 {ns : List Int} {k : Int} (h : asked1 [k :: ns] = true) (e0 : asked1 [[k]] = false) (e1 : ∀ a, asked1 [[k, a]] = false) (e2 : ∀ a b, asked1 [[k, a, b]] = false) (e4 : ∀ a b c d r, asked1 [k :: a :: b :: c :: d :: r] = false) (e3 : ∀ a b c, asked1 [[k, a, b, c]] = (natural a 32 && natural b 32 && natural c 32)) : ∃ a b c : Nat, ns = [(a : Int), (b : Int), (c : Int)] := by
  match ns, h with
  | [], h => rw [e0] at h; cases h
  | [a], h => rw [e1] at h; cases h
  | [a, b], h => rw [e2] at h; cases h
  | [a, b, c], h =>
    rw [e3] at h
    simp only [Bool.and_eq_true] at h
    obtain ⟨a', rfl, _⟩ := nat32 h.1.1
    obtain ⟨b', rfl, _⟩ := nat32 h.1.2
    obtain ⟨c', rfl, _⟩ := nat32 h.2
    exact ⟨a', b', c', rfl⟩
  | a :: b :: c :: d :: r, h => rw [e4] at h; cases h
theorem list0 {ns : List Int} {k : Int} (h : asked1 [k :: ns] = true) (e1 : ∀ a r, asked1 [k :: a :: r] = false) : ns = [] := by
  match ns, h with
  | [], _ => rfl
  | a :: r, h => rw [e1] at h; cases h
theorem step_of {c : Call_} {x : Kqb1.Call} (h : callOf c = some x) (s : S) : Kqb1Neutral.step s c = ((Kqb1.step s x).1, Kqb1Neutral.tell (Kqb1.step s x).2) := by
  unfold Kqb1Neutral.step
  rw [h]
/-- each call that may be asked is one, and is refused where nothing is begun -/
theorem asked_nat : ∀ {k : Nat} {ns : List Int}, k ≤ 19 → asked1 [(k : Int) :: ns] = true → ∃ x, callOf [(k : Int) :: ns] = some x ∧ (k ≠ 0 → Kqb1.step none x = (none, .num (-11)))
  | 0, ns, _, h => by
    obtain ⟨a, b, c, d, e, g, rfl⟩ := asked_start h
    exact ⟨_, rfl, fun z => absurd rfl z⟩
  | 1, ns, _, h => by
    obtain ⟨a, rfl⟩ := list1 h rfl (fun _ _ _ => rfl) (fun _ => rfl)
    exact ⟨_, rfl, fun z => rfl⟩
  | 2, ns, _, h => by
    obtain ⟨a, b, d, rfl⟩ := list3 h rfl (fun _ => rfl) (fun _ _ => rfl) (fun _ _ _ _ _ => rfl) (fun _ _ _ => rfl)
    exact ⟨_, rfl, fun z => rfl⟩
  | 3, ns, _, h => by
    obtain ⟨a, rfl⟩ := list1 h rfl (fun _ _ _ => rfl) (fun _ => rfl)
    exact ⟨_, rfl, fun z => rfl⟩
  | 4, ns, _, h => by
    obtain ⟨a, rfl⟩ := list1 h rfl (fun _ _ _ => rfl) (fun _ => rfl)
    exact ⟨_, rfl, fun z => rfl⟩
  | 5, ns, _, h => by
    obtain ⟨a, rfl⟩ := list1 h rfl (fun _ _ _ => rfl) (fun _ => rfl)
    exact ⟨_, rfl, fun z => rfl⟩
  | 6, ns, _, h => by
    obtain ⟨a, rfl⟩ := list1 h rfl (fun _ _ _ => rfl) (fun _ => rfl)
    exact ⟨_, rfl, fun z => rfl⟩
  | 7, ns, _, h => by
    obtain ⟨a, rfl⟩ := list1 h rfl (fun _ _ _ => rfl) (fun _ => rfl)
    exact ⟨_, rfl, fun z => rfl⟩
  | 8, ns, _, h => by
    have en := list0 h (fun _ _ => rfl)
    subst en
    exact ⟨_, rfl, fun z => rfl⟩
  | 9, ns, _, h => by
    obtain ⟨a, rfl⟩ := list1 h rfl (fun _ _ _ => rfl) (fun _ => rfl)
    exact ⟨_, rfl, fun z => rfl⟩
  | 10, ns, _, h => by
    obtain ⟨a, b, d, rfl⟩ := list3 h rfl (fun _ => rfl) (fun _ _ => rfl) (fun _ _ _ _ _ => rfl) (fun _ _ _ => rfl)
    exact ⟨_, rfl, fun z => rfl⟩
  | 11, ns, _, h => by
    obtain ⟨a, b, d, rfl⟩ := list3 h rfl (fun _ => rfl) (fun _ _ => rfl) (fun _ _ _ _ _ => rfl) (fun _ _ _ => rfl)
    exact ⟨_, rfl, fun z => rfl⟩
  | 12, ns, _, h => by
    obtain ⟨a, b, d, rfl⟩ := list3 h rfl (fun _ => rfl) (fun _ _ => rfl) (fun _ _ _ _ _ => rfl) (fun _ _ _ => rfl)
    exact ⟨_, rfl, fun z => rfl⟩
  | 13, ns, _, h => by
    obtain ⟨a, rfl⟩ := list1 h rfl (fun _ _ _ => rfl) (fun _ => rfl)
    exact ⟨_, rfl, fun z => rfl⟩
  | 14, ns, _, h => by
    obtain ⟨a, rfl⟩ := list1 h rfl (fun _ _ _ => rfl) (fun _ => rfl)
    exact ⟨_, rfl, fun z => rfl⟩
  | 15, ns, _, h => by
    obtain ⟨a, rfl⟩ := list1 h rfl (fun _ _ _ => rfl) (fun _ => rfl)
    exact ⟨_, rfl, fun z => rfl⟩
  | 16, ns, _, h => by
    have en := list0 h (fun _ _ => rfl)
    subst en
    exact ⟨_, rfl, fun z => rfl⟩
  | 17, ns, _, h => by
    obtain ⟨a, rfl⟩ := list1 h rfl (fun _ _ _ => rfl) (fun _ => rfl)
    exact ⟨_, rfl, fun z => rfl⟩
  | 18, ns, _, h => by
    have en := list0 h (fun _ _ => rfl)
    subst en
    exact ⟨_, rfl, fun z => rfl⟩
  | 19, ns, _, h => by
    have en := list0 h (fun _ _ => rfl)
    subst en
    exact ⟨_, rfl, fun z => rfl⟩
  | k + 20, _, hk, _ => absurd hk (by omega)
end Fc

end

section
set_option linter.all false
namespace Fc
open Kqb1 (Piece Sheet Web)

/-! ### the best is the best: none is worth more -/
section
variable {m : M}
theorem M.pick_ge (m : M) (s : Nat) : ∀ (n x : Nat), x < n → x * m.w0 + (s - x * m.short) / m.tall * m.w1 ≤ (m.pick s n).1
  | 0, x, h => by omega
  | n + 1, x, h => by
    unfold M.pick
    by_cases e : x = n
    · subst e
      split
      · exact Nat.le_refl _
      · omega
    · have ih := M.pick_ge m s n x (by omega)
      split
      · show _ ≤ n * m.w0 + (s - n * m.short) / m.tall * m.w1
        omega
      · exact ih
def M.val (m : M) (s : Nat) : Nat := (m.best s).1
/-- whatever fits is worth no more -/
theorem M.val_ge (G : Good m) {s x y : Nat} (h : x * m.short + y * m.tall ≤ s) : x * m.w0 + y * m.w1 ≤ m.val s := by
  have hs := G.s1
  have ht := G.st
  have hx : x ≤ s / m.short := by
    rw [Nat.le_div_iff_mul_le (by omega)]
    omega
  have hy : y ≤ (s - x * m.short) / m.tall := by
    rw [Nat.le_div_iff_mul_le (by omega)]
    omega
  have h1 := M.pick_ge m s (s / m.short + 1) x (by omega)
  have h2 : y * m.w1 ≤ (s - x * m.short) / m.tall * m.w1 := Nat.mul_le_mul_right _ hy
  show _ ≤ (m.pick s (s / m.short + 1)).1
  omega
/-- .. and it goes out -/
theorem M.pick_fit (G : Good m) (s : Nat) : ∀ n, n ≤ s / m.short + 1 → (m.pick s n).2.1 * m.short + (m.pick s n).2.2 * m.tall ≤ s
  | 0, _ => by simp [M.pick]
  | n + 1, h => by
    unfold M.pick
    split
    · show n * m.short + (s - n * m.short) / m.tall * m.tall ≤ s
      have h2 : n * m.short ≤ s := by
        have h3 := Nat.div_mul_le_self s m.short
        have h4 : n * m.short ≤ s / m.short * m.short := Nat.mul_le_mul_right _ (by omega)
        omega
      have := Nat.div_mul_le_self (s - n * m.short) m.tall
      omega
    · exact M.pick_fit G s n (by omega)
theorem M.best_fit (G : Good m) (s : Nat) : (m.best s).2.1 * m.short + (m.best s).2.2 * m.tall ≤ s := M.pick_fit G s _ (Nat.le_refl _)
theorem M.val_mono (G : Good m) {s t : Nat} (h : s ≤ t) : m.val s ≤ m.val t := by
  have h1 := M.best_fit G s
  have h2 := M.best_val m s
  have := M.val_ge G (s := t) (Nat.le_trans h1 h)
  unfold M.val
  rw [h2]
  exact this
theorem M.val_add (G : Good m) (s t : Nat) : m.val s + m.val t ≤ m.val (s + t) := by
  have h1 := M.best_fit G s
  have h2 := M.best_fit G t
  have h3 := M.best_val m s
  have h4 := M.best_val m t
  have h5 := M.val_ge G (s := s + t) (x := (m.best s).2.1 + (m.best t).2.1) (y := (m.best s).2.2 + (m.best t).2.2) (by
    rw [Nat.add_mul, Nat.add_mul]
    omega)
  rw [Nat.add_mul, Nat.add_mul] at h5
  unfold M.val at h5 ⊢
  rw [h3, h4]
  omega
theorem M.val_zero (G : Good m) : m.val 0 = 0 := by
  have h1 := M.best_fit G 0
  have h2 := M.best_val m 0
  have hs := G.s1
  have ht := G.st
  have a : (m.best 0).2.1 = 0 := by
    rcases Nat.eq_zero_or_pos (m.best 0).2.1 with z | z
    · exact z
    · have : 1 * 1 ≤ (m.best 0).2.1 * m.short := Nat.mul_le_mul z hs
      omega
  have b : (m.best 0).2.2 = 0 := by
    rcases Nat.eq_zero_or_pos (m.best 0).2.2 with z | z
    · exact z
    · have : 1 * 1 ≤ (m.best 0).2.2 * m.tall := Nat.mul_le_mul z (by omega)
      omega
  unfold M.val
  rw [h2, a, b]
  simp
/-! ### what is free more is worth no less -/
/-- the rest from place p on, the open stretch being so long -/
def M.rest (m : M) (F : Nat → Bool) (p len : Nat) : Nat → Nat
  | 0 => m.val len
  | k + 1 => if F p then m.rest F (p + 1) (len + 1) k else m.val len + m.rest F (p + 1) 0 k
theorem M.rest_mono (G : Good m) (F : Nat → Bool) : ∀ (k p a b : Nat), a ≤ b → m.rest F p a k ≤ m.rest F p b k
  | 0, p, a, b, h => M.val_mono G h
  | k + 1, p, a, b, h => by
    unfold M.rest
    split
    · exact M.rest_mono G F k _ _ _ (by omega)
    · have := M.val_mono G h
      omega
theorem M.rest_add (G : Good m) (F : Nat → Bool) : ∀ (k p a b : Nat), m.val a + m.rest F p b k ≤ m.rest F p (a + b) k
  | 0, p, a, b => M.val_add G a b
  | k + 1, p, a, b => by
    unfold M.rest
    split
    · exact M.rest_add G F k _ a (b + 1)
    · have := M.val_add G a b
      omega
theorem M.rest_sub (G : Good m) {F F' : Nat → Bool} (h : ∀ i, F i = true → F' i = true) : ∀ (k p a : Nat), m.rest F p a k ≤ m.rest F' p a k
  | 0, p, a => Nat.le_refl _
  | k + 1, p, a => by
    unfold M.rest
    cases e : F p with
    | true =>
      rw [h p e]
      simp only [if_true]
      exact M.rest_sub G h k _ _
    | false =>
      have ih := M.rest_sub G h k (p + 1) 0
      cases e' : F' p with
      | true =>
        simp only [if_true, Bool.false_eq_true, if_false]
        have h1 := M.rest_add G F' k (p + 1) a 0
        have h2 := M.rest_mono G F' k (p + 1) (a + 0) (a + 1) (by omega)
        omega
      | false =>
        simp only [Bool.false_eq_true, if_false]
        omega
/-- a scan's end, by the rest -/
def M.sumVal (m : M) (l : List (Nat × Nat)) : Nat := (l.map fun p => m.val (p.2 - p.1)).sum
theorem M.sumVal_snoc (m : M) (l : List (Nat × Nat)) (a b : Nat) : m.sumVal (l ++ [(a, b)]) = m.sumVal l + m.val (b - a) := by
  unfold M.sumVal
  simp
theorem M.scan_rest (G : Good m) {F : Nat → Bool} {n : Nat} (hn : F n = false) : ∀ (k p b : Nat) (found : List (Nat × Nat)), p + k = n → Scan F n p b found → m.sumVal found + m.rest F p (p - b) k = m.sumVal (starts F n n)
  | 0, p, b, found, e, S => by
    have e : p = n := by omega
    subst e
    have S2 := S.stop (Nat.le_refl p) hn
    have l := S2.last hn
    by_cases h : b < p
    · rw [if_pos h] at l
      rw [← l, M.sumVal_snoc]
      rfl
    · rw [if_neg h] at l
      have : p - b = 0 := by omega
      rw [← l, this]
      show _ + m.val 0 = _
      rw [M.val_zero G]
      rfl
  | k + 1, p, b, found, e, S => by
    unfold M.rest
    cases q : F p with
    | true =>
      simp only [if_true]
      have := M.scan_rest G hn k (p + 1) b found (by omega) (S.go q)
      rw [show p + 1 - b = p - b + 1 by have := S.le; omega] at this
      exact this
    | false =>
      simp only [Bool.false_eq_true, if_false]
      have S2 := S.stop (by omega) q
      have ih := M.scan_rest G hn k (p + 1) (p + 1) _ (by omega) S2
      rw [Nat.sub_self] at ih
      by_cases h : b < p
      · rw [if_pos h, M.sumVal_snoc] at ih
        omega
      · rw [if_neg h] at ih
        have : p - b = 0 := by omega
        rw [this, M.val_zero G]
        omega
theorem M.starts_sub (G : Good m) {F F' : Nat → Bool} {n : Nat} (h : ∀ i, F i = true → F' i = true) (hn : F n = false) (hn' : F' n = false) : m.sumVal (starts F n n) ≤ m.sumVal (starts F' n n) := by
  have a := M.scan_rest G hn n 0 0 [] (by omega) (Scan.zero F n)
  have b := M.scan_rest G hn' n 0 0 [] (by omega) (Scan.zero F' n)
  rw [← a, ← b]
  have := M.rest_sub G h n 0 (0 - 0)
  omega
theorem M.laneWorth_val (m : M) (k : Nat) : m.laneWorth k = m.sumVal (m.stretches k) := rfl
/-- a fault that's mended never makes less -/
def M.mended (m : M) (f : Nat) : M := { m with faults := m.faults.filter fun q => decide (q.1 ≠ f) }
theorem any_less {α : Type} {l : List α} {p f : α → Bool} (h : (l.filter p).any f = true) : l.any f = true := by
  rw [List.any_eq_true] at h ⊢
  obtain ⟨x, hx, e⟩ := h
  exact ⟨x, (List.mem_filter.mp hx).1, e⟩
theorem Good.mended (G : Good m) (f : Nat) : Good (m.mended f) :=
  ⟨G.l1, G.l3, G.n80, G.s1, G.st, G.t60, G.v0, G.v1, Nat.le_trans (List.length_filter_le _ _) G.f8, G.s30, fun q hq => G.fl q (List.mem_filter.mp hq).1, G.sl, fun k i h => G.dj k i (any_less h)⟩
/-- one more fault, where no sheet lies -/
theorem Good.faulted (G : Good m) {n k a b : Nat} (h1 : k < m.lanes) (h2 : a < b) (h3 : b ≤ m.long) (h4 : m.faults.length < 8) (h5 : ∀ i, a ≤ i → i < b → m.stamped k i = false) : Good { m with faults := m.faults ++ [(n, ⟨k, a, b⟩)] } := by
  refine ⟨G.l1, G.l3, G.n80, G.s1, G.st, G.t60, G.v0, G.v1, ?_, G.s30, fun q hq => ?_, G.sl, fun k' i h => ?_⟩
  · show (m.faults ++ [(n, (⟨k, a, b⟩ : Piece))]).length ≤ 8
    rw [List.length_append]
    show _ + 1 ≤ 8
    omega
  · rcases List.mem_append.mp hq with z | z
    · exact G.fl q z
    · have e : q = (n, ⟨k, a, b⟩) := by simpa using z
      subst e
      exact ⟨h1, h2, h3⟩
  · show m.stamped k' i = false
    unfold M.faulty at h
    rw [List.any_append, Bool.or_eq_true] at h
    rcases h with h | h
    · exact G.dj k' i h
    · simp at h
      obtain ⟨⟨rfl, h6⟩, h7⟩ := h
      exact h5 i h6 h7
theorem Good.coated (G : Good m) {n : Nat} (h : m.long + n ≤ 80) : Good { m with long := m.long + n } :=
  ⟨G.l1, G.l3, h, G.s1, G.st, G.t60, G.v0, G.v1, G.f8, G.s30, fun q hq => ⟨(G.fl q hq).1, (G.fl q hq).2.1, Nat.le_trans (G.fl q hq).2.2 (Nat.le_add_right _ _)⟩, fun q hq => ⟨(G.sl q hq).1, (G.sl q hq).2.1, Nat.le_trans (G.sl q hq).2.2 (Nat.le_add_right _ _)⟩, G.dj⟩
theorem M.mended_free (m : M) (f k i : Nat) (h : m.free k i = true) : (m.mended f).free k i = true := by
  unfold M.free at h ⊢
  have e : (m.mended f).stamped k i = m.stamped k i := rfl
  have e2 : (m.mended f).long = m.long := rfl
  rw [e, e2]
  simp only [Bool.and_eq_true, Bool.not_eq_true', Bool.or_eq_false_iff] at h ⊢
  refine ⟨h.1, ?_, h.2.2⟩
  have h1 := h.2.1
  unfold M.faulty at h1 ⊢
  rw [List.any_eq_false] at h1 ⊢
  intro q hq
  exact h1 q (List.mem_filter.mp hq).1
theorem M.mended_val (m : M) (f s : Nat) : (m.mended f).val s = m.val s := by
  have : ∀ x, (m.mended f).pick s x = m.pick s x := by
    intro x
    induction x with
    | zero => rfl
    | succ x ih =>
      show (if ((m.mended f).pick s x).1 ≤ _ then _ else (m.mended f).pick s x) = if (m.pick s x).1 ≤ _ then _ else m.pick s x
      rw [ih]
      rfl
  show ((m.mended f).pick s (s / m.short + 1)).1 = (m.pick s (s / m.short + 1)).1
  rw [this]
theorem M.mended_lane (G : Good m) (f k : Nat) : m.laneWorth k ≤ (m.mended f).laneWorth k := by
  have h := M.starts_sub G (F := m.free k) (F' := (m.mended f).free k) (n := m.long) (fun i h => M.mended_free m f k i h) (M.free_long m k) (M.free_long (m.mended f) k)
  rw [M.laneWorth_val, M.laneWorth_val]
  have e : (m.mended f).sumVal ((m.mended f).stretches k) = m.sumVal ((m.mended f).stretches k) := by
    unfold M.sumVal
    congr 2
    funext p
    exact M.mended_val m f _
  rw [e]
  exact h
theorem sum_le {α : Type} {g h : α → Nat} : ∀ (l : List α), (∀ x ∈ l, g x ≤ h x) → (l.map g).sum ≤ (l.map h).sum
  | [], _ => Nat.le_refl _
  | a :: l, e => by
    rw [List.map_cons, List.map_cons, List.sum_cons, List.sum_cons]
    have := e a (by simp)
    have := sum_le l (fun x hx => e x (by simp [hx]))
    omega
theorem M.mended_total (G : Good m) (f : Nat) : m.total ≤ (m.mended f).total := sum_le _ fun k _ => M.mended_lane G f k
end
/-! ### a fault mended, by the specification -/
section
variable {m : M} {w : Web}
theorem Rel.mended (R : Rel m w) {f : Nat} {x : Piece} (h : w.faults[f]? = some (some x)) : Rel (m.mended f) (Kqb1.without w f) :=
  ⟨R.lanes, R.long, R.short, R.tall, R.worth0, R.worth1, R.faults.drop h, R.sheets⟩
theorem Rel.gain (R : Rel m w) (G : Good m) {f : Nat} (h : f ∈ m.faults.map (·.1)) : ((Kqb1.gain w f : Nat) : Int) = ((m.mended f).total : Int) - (m.total : Int) := by
  obtain ⟨x, hx⟩ := R.faults.key.mp h
  unfold Kqb1.gain
  rw [(R.mended hx).total, R.total]
  have := M.mended_total G f
  omega
end
end Fc

end

section
set_option linter.all false
namespace Fc
open Kqb1 (Piece Sheet Web)
section
variable {m : M} {w : Web}
/-! ### fits, next -/
def M.fits (m : M) (k a z : Nat) : Bool := (List.range (m.size z)).all fun i => m.free k (a + i)
theorem Rel.fits (R : Rel m w) {k a z : Nat} (hk : k < m.lanes) (hz : z ≤ 1) : Kqb1.fits w ⟨k, a, z⟩ = m.fits k a z := by
  unfold Kqb1.fits M.fits
  show (decide (k < w.lanes) && decide (z ≤ 1) && (List.range (Kqb1.sizeOf_ w z)).all fun i => Kqb1.isFree w k (a + i)) = _
  rw [R.lanes, decide_eq_true hk, decide_eq_true hz, R.size]
  simp only [Bool.true_and]
  congr 1
  funext i
  exact R.free k (a + i)
theorem M.fits_iff {k a z : Nat} : m.fits k a z = true ↔ ∀ i, a ≤ i → i < a + m.size z → m.free k i = true := by
  unfold M.fits
  rw [List.all_eq_true]
  constructor
  · intro h i h1 h2
    have := h (i - a) (by rw [List.mem_range]; omega)
    rw [show a + (i - a) = i by omega] at this
    exact this
  · intro h i hi
    rw [List.mem_range] at hi
    exact h (a + i) (by omega) (by omega)
theorem M.fits_long (G : Good m) {k a z : Nat} (h : m.fits k a z = true) : a + m.size z ≤ m.long := by
  have hz := G.size_pos z
  have := M.free_lt (M.fits_iff.mp h (a + m.size z - 1) (by omega) (by omega))
  omega
theorem Rel.next_some (R : Rel m w) {k a z j : Nat} (hk : k < m.lanes) (hz : z ≤ 1) (h1 : a ≤ j) (h2 : j ≤ m.long) (h3 : m.fits k j z = true) (h4 : ∀ i, a ≤ i → i < j → m.fits k i z = false) : Kqb1.next w k a z = some j := by
  unfold Kqb1.next
  rw [R.long]
  refine find_range _ _ j (by omega) ?_ fun i hi => ?_
  · rw [R.fits hk hz, h3, decide_eq_true h1]; rfl
  · rw [R.fits hk hz]
    by_cases e : a ≤ i
    · rw [h4 i e hi, Bool.and_false]
    · rw [decide_eq_false e, Bool.false_and]
theorem Rel.next_none (R : Rel m w) {k a z : Nat} (hk : k < m.lanes) (hz : z ≤ 1) (h : ∀ i, a ≤ i → i ≤ m.long → m.fits k i z = false) : Kqb1.next w k a z = none := by
  unfold Kqb1.next
  rw [List.find?_eq_none, R.long]
  intro i hi
  rw [List.mem_range] at hi
  rw [R.fits hk hz]
  by_cases e : a ≤ i
  · rw [h i e (by omega), Bool.and_false]
    exact Bool.false_ne_true
  · rw [decide_eq_false e, Bool.false_and]
    exact Bool.false_ne_true
/-! ### sheets put and lifted -/
def M.stampedWith (m : M) (n : Nat) (x : Sheet) : M := { m with sheets := m.sheets ++ [(n, x)] }
theorem Rel.stampedWith (R : Rel m w) (x : Sheet) {n : Nat} (h : Kqb1.slot w.sheets = n) : Rel (m.stampedWith n x) { w with sheets := Kqb1.putIn w.sheets x } := by
  have z := R.sheets.put x
  rw [h] at z
  exact ⟨R.lanes, R.long, R.short, R.tall, R.worth0, R.worth1, R.faults, z⟩
theorem Good.stampedWith (G : Good m) {n : Nat} {x : Sheet} (h1 : x.lane < m.lanes) (h2 : x.size ≤ 1) (h3 : x.from_ + m.size x.size ≤ m.long) (h4 : m.sheets.length < 30) (h5 : ∀ i, x.from_ ≤ i → i < x.from_ + m.size x.size → m.faulty x.lane i = false) : Good (m.stampedWith n x) := by
  refine ⟨G.l1, G.l3, G.n80, G.s1, G.st, G.t60, G.v0, G.v1, G.f8, ?_, G.fl, fun q hq => ?_, fun k i h => ?_⟩
  · show (m.sheets ++ [(n, x)]).length ≤ 30
    rw [List.length_append]
    show _ + 1 ≤ 30
    omega
  · rcases List.mem_append.mp hq with z | z
    · exact G.sl q z
    · have e : q = (n, x) := by simpa using z
      subst e
      exact ⟨h1, h2, h3⟩
  · have h : m.faulty k i = true := h
    have h6 := G.dj k i h
    show (m.sheets ++ [(n, x)]).any _ = false
    rw [List.any_append, Bool.or_eq_false_iff]
    refine ⟨h6, ?_⟩
    refine Bool.eq_false_iff.mpr fun z => ?_
    simp at z
    obtain ⟨⟨e, h7⟩, h8⟩ := z
    subst e
    rw [h5 i h7 h8] at h
    cases h
def M.lifted (m : M) (n : Nat) : M := { m with sheets := m.sheets.filter fun q => decide (q.1 ≠ n) }
theorem Rel.lifted (R : Rel m w) {n : Nat} {x : Sheet} (h : w.sheets[n]? = some (some x)) : Rel (m.lifted n) { w with sheets := w.sheets.set n none } :=
  ⟨R.lanes, R.long, R.short, R.tall, R.worth0, R.worth1, R.faults, R.sheets.drop h⟩
theorem Good.lifted (G : Good m) (n : Nat) : Good (m.lifted n) :=
  ⟨G.l1, G.l3, G.n80, G.s1, G.st, G.t60, G.v0, G.v1, G.f8, Nat.le_trans (List.length_filter_le _ _) G.s30, G.fl, fun q hq => G.sl q (List.mem_filter.mp hq).1, fun k i h => Bool.eq_false_iff.mpr fun z => by
    have h6 := G.dj k i h
    have z : m.stamped k i = true := any_less z
    rw [h6] at z
    cases z⟩
/-! ### every free run lies in a stretch; the stretches rise -/
theorem start_of {F : Nat → Bool} : ∀ i, F i = true → ∃ a, a ≤ i ∧ (∀ j, a ≤ j → j ≤ i → F j = true) ∧ (a = 0 ∨ F (a - 1) = false)
  | 0, h => ⟨0, Nat.le_refl 0, fun j _ h2 => by rw [show j = 0 by omega]; exact h, .inl rfl⟩
  | i + 1, h => by
    cases e : F i with
    | false => exact ⟨i + 1, Nat.le_refl _, fun j h1 h2 => by rw [show j = i + 1 by omega]; exact h, .inr (by simpa using e)⟩
    | true =>
      obtain ⟨a, h1, h2, h3⟩ := start_of i e
      refine ⟨a, by omega, fun j h4 h5 => ?_, h3⟩
      by_cases q : j = i + 1
      · rw [q]; exact h
      · exact h2 j h4 (by omega)
theorem endOf_end {F : Nat → Bool} {n a : Nat} (hF : F n = false) (han : a < n) : a < endOf F n a ∧ F (endOf F n a) = false := by
  unfold endOf
  cases z : (List.range (n + 1)).find? (fun b => decide (a < b) && !(F b)) with
  | none =>
    rw [List.find?_eq_none] at z
    have := z n (by simp)
    simp [hF, han] at this
  | some e =>
    have h1 := List.find?_some z
    simp at h1
    exact h1
theorem starts_all {F : Nat → Bool} {n i s : Nat} (hF : F n = false) (hn : ∀ i, F i = true → i < n) (hs : 0 < s) (h : ∀ j, i ≤ j → j < i + s → F j = true) : ∃ p ∈ starts F n n, p.1 ≤ i ∧ i + s ≤ p.2 := by
  obtain ⟨a, h1, h2, h3⟩ := start_of i (h i (Nat.le_refl i) (by omega))
  have ha : F a = true := h2 a (Nat.le_refl a) h1
  have han := hn a ha
  obtain ⟨e1, e2⟩ := endOf_end hF han
  refine ⟨(a, endOf F n a), ?_, h1, ?_⟩
  · unfold starts
    rw [List.mem_filterMap]
    refine ⟨a, List.mem_range.mpr han, ?_⟩
    rw [if_pos]
    rcases h3 with q | q
    · subst q; simp [ha]
    · simp [ha, q]
  · show i + s ≤ endOf F n a
    refine Classical.byContradiction fun q => ?_
    by_cases c : endOf F n a ≤ i
    · rw [h2 _ (by omega) c] at e2; cases e2
    · rw [h _ (by omega) (by omega)] at e2; cases e2
theorem starts_rise {F : Nat → Bool} {n m : Nat} (hF : F n = false) (hn : ∀ i, F i = true → i < n) : (starts F n m).Pairwise fun p q => p.2 ≤ q.1 := by
  have h0 : (starts F n m).Pairwise fun p q => p.1 < q.1 := by
    unfold starts
    refine List.Pairwise.filterMap _ ?_ (List.pairwise_lt_range (n := m))
    intro a a' h b hb b' hb'
    split at hb
    · split at hb'
      · simp at hb hb'
        subst hb hb'
        exact h
      · cases hb'
    · cases hb
  refine h0.imp_of_mem ?_
  rintro ⟨a, e⟩ ⟨b, g⟩ hp hq h
  have h1 := starts_mem hp hF hn
  show e ≤ b
  have h : a < b := h
  have hb : F (b - 1) = false := by
    unfold starts at hq
    rw [List.mem_filterMap] at hq
    obtain ⟨x, _, q⟩ := hq
    split at q
    · rename_i hc
      simp at q
      obtain ⟨rfl, _⟩ := q
      simp at hc
      rcases hc.2 with z | z
      · omega
      · exact z
    · cases q
  refine Classical.byContradiction fun q => ?_
  rw [h1.2.2.2 (b - 1) (by omega) (by omega)] at hb
  cases hb
/-! ### the first place that fits, stretch by stretch -/
def up (a b : Nat) : Nat := if a < b then b else a
theorem up_ge (a b : Nat) : a ≤ up a b ∧ b ≤ up a b ∧ (up a b = a ∨ up a b = b) := by
  unfold up; split <;> omega
theorem M.fits_in (G : Good m) {k x z : Nat} (h : m.fits k x z = true) : ∃ p ∈ m.stretches k, p.1 ≤ x ∧ x + m.size z ≤ p.2 :=
  starts_all (M.free_long m k) (fun i => M.free_lt) (G.size_pos z) (M.fits_iff.mp h)
theorem M.fit_here (G : Good m) {k a z i : Nat} {p : Nat × Nat} (hi : (m.stretches k)[i]? = some p) (hb : ∀ q ∈ (m.stretches k).take i, ¬ (up a q.1 + m.size z ≤ q.2)) (hok : up a p.1 + m.size z ≤ p.2) :
    m.fits k (up a p.1) z = true ∧ ∀ x, a ≤ x → x < up a p.1 → m.fits k x z = false := by
  have hp : p ∈ m.stretches k := List.mem_of_getElem? hi
  obtain ⟨h1, h2, h3⟩ := M.stretches_mem (a := p.1) (e := p.2) hp
  have hu := up_ge a p.1
  refine ⟨M.fits_iff.mpr fun j h4 h5 => h3 j (by omega) (by omega), fun x h4 h5 => ?_⟩
  refine Bool.eq_false_iff.mpr fun hx => ?_
  obtain ⟨q, hq, h6, h7⟩ := M.fits_in G hx
  obtain ⟨j, hj⟩ := List.getElem?_of_mem hq
  have hs := starts_rise (m := m.long) (M.free_long m k) (fun i => M.free_lt (m := m) (k := k) (i := i))
  rw [List.pairwise_iff_getElem] at hs
  obtain ⟨l1, e1⟩ := List.getElem?_eq_some_iff.mp hi
  obtain ⟨l2, e2⟩ := List.getElem?_eq_some_iff.mp hj
  have hz := G.size_pos z
  rcases Nat.lt_trichotomy j i with c | c | c
  · refine hb q ?_ ?_
    · rw [List.mem_take_iff_getElem]
      exact ⟨j, by omega, e2⟩
    · have := up_ge a q.1
      omega
  · subst c
    rw [e1] at e2
    subst e2
    omega
  · have := hs i j l1 l2 c
    have e1' : (starts (m.free k) m.long m.long)[i] = p := e1
    have e2' : (starts (m.free k) m.long m.long)[j] = q := e2
    rw [e1', e2'] at this
    omega
theorem M.fit_none (G : Good m) {k a z : Nat} (hb : ∀ q ∈ m.stretches k, ¬ (up a q.1 + m.size z ≤ q.2)) (x : Nat) (hx : a ≤ x) : m.fits k x z = false := by
  refine Bool.eq_false_iff.mpr fun hf => ?_
  obtain ⟨q, hq, h6, h7⟩ := M.fits_in G hf
  have := up_ge a q.1
  exact hb q hq (by omega)
/-! ### the plan lies in the lane -/
theorem run_mem {b len z n : Nat} {q : Nat × Nat} (h : q ∈ run b len z n) : ∃ i, i < n ∧ q = (b + i * len, z) := by
  rw [run_eq] at h
  obtain ⟨i, hi, e⟩ := List.mem_map.mp h
  exact ⟨i, List.mem_range.mp hi, e.symm⟩
theorem M.plan_mem (G : Good m) {k b z : Nat} (h : (b, z) ∈ m.plan k) : z ≤ 1 ∧ b + m.size z ≤ m.long ∧ ∀ i, b ≤ i → i < b + m.size z → m.free k i = true := by
  unfold M.plan at h
  obtain ⟨p, hp, hq⟩ := List.mem_flatMap.mp h
  obtain ⟨h1, h2, h3⟩ := M.stretches_mem (a := p.1) (e := p.2) hp
  have hf := M.best_fit G (p.2 - p.1)
  unfold M.cuts at hq
  have key : z ≤ 1 ∧ p.1 ≤ b ∧ b + m.size z ≤ p.2 := by
    rcases List.mem_append.mp hq with hq | hq
    · obtain ⟨i, hi, e⟩ := run_mem hq
      have e1 : b = p.1 + i * m.short := congrArg Prod.fst e
      have e2 : z = 0 := congrArg Prod.snd e
      subst e2
      have h4 : (i + 1) * m.short ≤ (m.best (p.2 - p.1)).2.1 * m.short := Nat.mul_le_mul_right _ hi
      rw [Nat.add_mul, Nat.one_mul] at h4
      have : m.size 0 = m.short := rfl
      omega
    · obtain ⟨i, hi, e⟩ := run_mem hq
      have e1 : b = p.1 + (m.best (p.2 - p.1)).2.1 * m.short + i * m.tall := congrArg Prod.fst e
      have e2 : z = 1 := congrArg Prod.snd e
      subst e2
      have h4 : (i + 1) * m.tall ≤ (m.best (p.2 - p.1)).2.2 * m.tall := Nat.mul_le_mul_right _ hi
      rw [Nat.add_mul, Nat.one_mul] at h4
      have : m.size 1 = m.tall := rfl
      omega
  exact ⟨key.1, by omega, fun i h4 h5 => h3 i (by omega) (by omega)⟩
/-! ### the worst -/
theorem find_first {α : Type} (p : α → Bool) : ∀ (l : List α) (i : Nat) (x : α), l[i]? = some x → p x = true → (∀ j y, j < i → l[j]? = some y → p y = false) → l.find? p = some x
  | [], i, x, h, _, _ => by simp at h
  | a :: l, 0, x, h, hp, _ => by
    have e : a = x := by simpa using h
    subst e
    simp [hp]
  | a :: l, i + 1, x, h, hp, hn => by
    have h0 := hn 0 a (by omega) (by simp)
    rw [List.find?_cons, h0]
    exact find_first p l i x (by simpa using h) hp fun j y hj hy => hn (j + 1) y (by omega) (by simpa using hy)
theorem Rel.there (R : Rel m w) {f : Nat} : f ∈ Kqb1.there w ↔ f ∈ m.faults.map (·.1) := by
  unfold Kqb1.there
  rw [List.mem_filter, List.mem_range]
  constructor
  · rintro ⟨h1, h2⟩
    refine Classical.byContradiction fun hn => ?_
    have := R.faults.getD_none.mpr hn
    rw [Option.isNone_iff_eq_none] at this
    rw [this] at h2
    cases h2
  · intro h
    refine ⟨R.faults.key_lt h, ?_⟩
    cases e : w.faults.getD f none with
    | none => exact absurd h (R.faults.getD_none.mp (by rw [e]; rfl))
    | some x => rfl
theorem there_sorted (w : Web) : (Kqb1.there w).Pairwise (· < ·) := by
  unfold Kqb1.there
  exact List.Pairwise.filter _ List.pairwise_lt_range
theorem Rel.worst_none (R : Rel m w) (h : m.faults = []) : Kqb1.worst w = none := by
  have e : Kqb1.there w = [] := by
    cases q : Kqb1.there w with
    | nil => rfl
    | cons a l =>
      have : a ∈ Kqb1.there w := by rw [q]; simp
      rw [R.there, h] at this
      simp at this
  unfold Kqb1.worst
  rw [e]
  rfl
theorem Rel.worst_some (R : Rel m w) {f : Nat} (hf : f ∈ m.faults.map (·.1)) (hmax : ∀ g ∈ m.faults.map (·.1), Kqb1.gain w g ≤ Kqb1.gain w f) (hfst : ∀ g ∈ m.faults.map (·.1), g < f → Kqb1.gain w g < Kqb1.gain w f) : Kqb1.worst w = some f := by
  have hm : f ∈ Kqb1.there w := R.there.mpr hf
  obtain ⟨i, hi⟩ := List.getElem?_of_mem hm
  show (((Kqb1.there w).map fun f => (f, Kqb1.total (Kqb1.without w f) - Kqb1.total w)).find? fun p => ((Kqb1.there w).map fun f => (f, Kqb1.total (Kqb1.without w f) - Kqb1.total w)).all fun q => decide (q.2 ≤ p.2)).map (fun p => p.1) = some f
  rw [find_first _ _ i (f, Kqb1.gain w f) (by rw [List.getElem?_map, hi]; rfl) ?_ ?_]
  · rfl
  · rw [List.all_eq_true]
    intro q hq
    obtain ⟨g, hg, e⟩ := List.mem_map.mp hq
    subst e
    exact decide_eq_true (hmax g (R.there.mp hg))
  · intro j y hj hy
    rw [List.getElem?_map] at hy
    cases e : (Kqb1.there w)[j]? with
    | none => rw [e] at hy; cases hy
    | some g =>
      rw [e] at hy
      have e2 : y = (g, Kqb1.gain w g) := (Option.some.inj hy).symm
      subst e2
      have hgm : g ∈ Kqb1.there w := List.mem_of_getElem? e
      have hlt : g < f := by
        have hs := there_sorted w
        rw [List.pairwise_iff_getElem] at hs
        obtain ⟨l1, e1⟩ := List.getElem?_eq_some_iff.mp e
        obtain ⟨l2, e2⟩ := List.getElem?_eq_some_iff.mp hi
        have := hs j i l1 l2 hj
        rw [e1, e2] at this
        exact this
      have hl := hfst g (R.there.mp hgm) hlt
      rw [List.all_eq_false]
      refine ⟨(f, Kqb1.gain w f), List.mem_map.mpr ⟨f, hm, rfl⟩, ?_⟩
      show ¬ decide (Kqb1.gain w f ≤ Kqb1.gain w g) = true
      rw [decide_eq_true_eq]
      omega
/-! ### places -/
def M.places (m : M) (f : Nat → Nat → Bool) : Nat := ((List.range m.lanes).map fun k => ((List.range m.long).filter (f k)).length).sum
theorem Rel.places (R : Rel m w) {f g : Nat → Nat → Bool} (h : ∀ k i, f k i = g k i) : Kqb1.places w f = m.places g := by
  unfold Kqb1.places M.places
  rw [sum_eq, R.lanes, R.long]
  congr 2
  funext k
  congr 2
  funext i
  exact h k i
theorem three {α : Type} {f g h : α → Bool} : ∀ (l : List α), (∀ x ∈ l, (if f x then 1 else 0) + (if g x then 1 else 0) + (if h x then 1 else 0) = 1) → (l.filter f).length + (l.filter g).length + (l.filter h).length = l.length
  | [], _ => rfl
  | a :: l, e => by
    have h1 := e a (by simp)
    have h2 := three l (fun x hx => e x (by simp [hx]))
    rw [List.filter_cons, List.filter_cons, List.filter_cons]
    rw [List.length_cons]
    cases e1 : f a <;> cases e2 : g a <;> cases e3 : h a <;> simp [e1, e2, e3] at h1 ⊢ <;> omega
theorem sum_three {α : Type} {f g h : α → Nat} {c : Nat} : ∀ (l : List α), (∀ x ∈ l, f x + g x + h x = c) → (l.map f).sum + (l.map g).sum + (l.map h).sum = l.length * c
  | [], _ => by simp
  | a :: l, e => by
    have h1 := e a (by simp)
    have h2 := sum_three l (fun x hx => e x (by simp [hx]))
    simp only [List.map_cons, List.sum_cons, List.length_cons, Nat.add_mul]
    omega
/-- every place is free, faulty or stamped, and none is two of these -/
theorem M.places_all (G : Good m) : m.places m.free + m.places m.faulty + m.places m.stamped = m.lanes * m.long := by
  unfold M.places
  rw [sum_three (c := m.long), List.length_range]
  intro k _
  rw [three, List.length_range]
  intro i hi
  rw [List.mem_range] at hi
  have hd := G.dj k i
  unfold M.free
  rw [decide_eq_true hi]
  cases h1 : m.faulty k i <;> cases h2 : m.stamped k i <;> simp_all
theorem Rel.placesFree (R : Rel m w) : Kqb1.places w (Kqb1.isFree w) = m.places m.free := R.places R.free
theorem Rel.placesFaulty (R : Rel m w) : Kqb1.places w (Kqb1.faulty w) = m.places m.faulty := R.places R.faulty
theorem Rel.placesStamped (R : Rel m w) : Kqb1.places w (Kqb1.stamped w) = m.places m.stamped := R.places R.stamped
end
end Fc

end

section
set_option Elab.async false
set_option linter.all false
set_option maxRecDepth 100000
set_option maxHeartbeats 4000000
namespace Fw
open PySem PySem.Spec PyProof.Rows L2
open Kqb1 (Piece Sheet Web)
open Fc (M Rel Good)

/-! ### the text by places -/
def top (i : Nat) : Stmt := PySem.Challenge.pw_foilcuts_s01_answers.main.body.getD i (.Pass ⟨0, 0, 0, 0⟩)

/-! ### rules of one's own -/
section
variable {X : Cx} {x : Str} {p pos : Pos} {e : Expr} {es : List Expr} {t : TA}
theorem pe_gint {i : Int} (h : ∃ t, X.mg x = some (.int i t)) (hg : Gl X x := by rfl) (hd : (x == ("__debug__" : Str)) = false := by decide) : PE X (.Name x pos) (tC (.int i)) := by
  obtain ⟨u, h⟩ := h
  exact pe_glob hg h ⟨u, rfl⟩ hd
theorem pe_gref {a : Addr} (h : X.mg x = some (.ref a)) (hg : Gl X x := by rfl) (hd : (x == ("__debug__" : Str)) = false := by decide) : PE X (.Name x pos) (tC (.ref a)) :=
  pe_glob hg h rfl hd
/-- a def of the text that may be called by its name -/
def Callee (P : Program) (w : World) (K : PySem.W.Frag) (mg : Str → Option Value) (base : Heap) (x : Str) (k : Nat) (ps : List Str) (sp : Sp) : Prop :=
  ∃ f fd, mg x = some (.ref f) ∧ PySem.W.keepIn K (.ref f) = true ∧ Binds K fd ps [] ∧ FnOk P w K mg base CX0 k f fd ps sp
theorem pe_fn {k : Nat} {ps : List Str} {sp : Sp} (F : Callee X.prog X.w X.K X.mg X.base x k ps sp) (hr : Room k X.A) (ha : PA X (e :: es) t) (hg : Gl X x := by rfl)
    (hdb : (x == ("__debug__" : Str)) = false := by decide) (he : starEach (e :: es) X.env = (false, eval e X.env) :: starEach es X.env := by rfl) (hpl : (backTo pos (starEach es X.env)).any (·.1) = false := by rfl) :
    PE X (.Call (.Name x p) (e :: es) [] pos) (tCall sp [] E0 t) := by
  obtain ⟨f, fd, h1, h2, h3, h4⟩ := F
  exact pe_call h4 hr hg h1 h2 h3 .nil pass0 ha hdb he hpl
/-- a class of the text that may be made -/
def Maker (P : Program) (w : World) (K : PySem.W.Frag) (mg : Str → Option Value) (base : Heap) (x : Str) (C : Addr) (k : Nat) (ps : List Str) (sp : Sp) : Prop :=
  ∃ f fd, mg x = some (.ref C) ∧ Mk K C f ∧ Binds K fd ps [] ∧ FnOk P w K mg base CX0 k f fd ps sp
theorem pe_mk {C : Addr} {k : Nat} {ps : List Str} {sp : Sp} (F : Maker X.prog X.w X.K X.mg X.base x C k ps sp) (hr : Room (k + 1) X.A) (ha : PA X (e :: es) t) (hg : Gl X x := by rfl)
    (hdb : (x == ("__debug__" : Str)) = false := by decide) (he : starEach (e :: es) X.env = (false, eval e X.env) :: starEach es X.env := by rfl) (hpl : (backTo pos (starEach es X.env)).any (·.1) = false := by rfl) :
    PE X (.Call (.Name x p) (e :: es) [] pos) (tMake C sp [] E0 t) := by
  obtain ⟨f, fd, h1, h2, h3, h4⟩ := F
  exact pe_make h2 h4 hr hg h1 h3 .nil pass0 ha hdb he hpl
end

/-! ### xs.extend(t), t a tuple -/
theorem list_extend_tuple (l : Addr) (items : Array Value) (n : Nat) (b : Addr) (items2 : Array Value) (n2 : Nat) (od : Option Addr) (osl : Array (Option Value)) (hs0 : ¬(!items.isEmpty && Builtin.List.listTooLong (items.size + items2.size)) = true) (hs1 : items.size ≤ sizeLine) (hs2 : items.size + items2.size ≤ sizeLine + 1) :
    Meets (Builtin.«list.extend» ⟨[.ref l, .ref b], []⟩) (fun _ R s => s.heap.get? l = some { cls := .type "list", dict := none, data := .seq items n, slots := #[] } ∧ s.heap.get? b = some { cls := .type "tuple", dict := od, data := .seq items2 n2, slots := osl } ∧ R (.ok (.ret Value.none)) { s with heap := s.heap.update l (Obj.mapSeq fun x => x ++ items2), toks := s.toks }) :=
  .of_wp fun prog w A R s h => by
    obtain ⟨hp, g, d, tk, os⟩ := s; obtain ⟨hl, hb, h⟩ := h; have f1 := AutoSeq1.idx_int; have f2 := AutoSeq1.sub_tuple_tuple; have f3 := AutoSeq1.sub_list_list; have f4 := AutoSeq1.sub_tuple_list; have f5 := AutoSeq1.sub_list_tuple;
    have hzz : (items ++ items2).size ≤ sizeLine + 1 := Array.size_append (xs := items) (ys := items2) ▸ hs2
    wp_walk using (wpAny_updateSeq hl rfl (hz := hs1) (_hz' := hzz)), AutoSeq1.wpAny_loadPart' hl, AutoSeq1.wpAny_loadPart' hb; exact ⟨_, rfl, h⟩
section
variable {X : Cx}
def rExtendT (K : PySem.W.Frag) : V → List V → Hp → VK → Prop := fun x vs H Q => ∃ l b xs zs, x = .ref l ∧ vs = [.ref b] ∧ H l = some (.lst xs) ∧ SqT K H b zs ∧ xs.length + zs.length ≤ sizeLine ∧ Q .non (upd H l (.lst (xs ++ zs)))
theorem mt_extendT : MtM X "list.extend" (rExtendT X.K) := by
  intro pins s σ H x vs v us Q I rx rv h
  obtain ⟨l, b, xs, zs, rfl, rfl, hH, hB, hz, q⟩ := h
  cases rx
  obtain ⟨u, rfl, ru⟩ := rv.one
  cases ru
  obtain ⟨z, its, n, r, hl, e⟩ := I.lstM hH
  obtain ⟨its2, r2, ⟨o, ho, hc, n2, hd⟩, hz2⟩ := I.tuple hB
  have hl2 := r2.length
  obtain ⟨oc, od, oda, osl⟩ := o
  have hc : oc = .type "tuple" := hc
  have hd : oda = .seq its2.toArray n2 := hd
  subst hc hd
  have hsz : its.toArray.size + its2.toArray.size ≤ sizeLine := by rw [List.size_toArray, List.size_toArray]; omega
  have hlong : ¬ (!its.toArray.isEmpty && Builtin.List.listTooLong (its.toArray.size + its2.toArray.size)) = true := by
    rw [notLongL hsz, Bool.and_false]
    exact Bool.false_ne_true
  refine call_meets F.slot_list_extend ⟨_, e, rfl⟩ F.entry_list_extend (F.args_list_extend_2 _ _)
    (list_extend_tuple l its.toArray n b its2.toArray n2 od osl hlong (by rw [List.size_toArray]; omega) (by omega)) ⟨e, ho, ?_⟩
  refine ⟨.non, _, I.lset (its' := its ++ its2) hH e (by simp) (r.append r2) ?_, rfl, q⟩
  rw [List.length_append]
  omega
end

/-! ### walks -/
/-- a comprehension over the values of a locked dict -/
theorem lc_vals {d : Addr} {o : Obj} {kvs : List (Key × V)} {g : TG} {tt : TT} {te : TE} {vs : List Nat} {σ : L2.St} {H1 : Hp} {D : Addr} {Qd : Hp → Prop} (Pv : Nat → Hp → Prop) (h0 : Pv 0 (upd H1 D (.lst [])))
    (hl : ∀ i H, i ≤ kvs.length → Pv i H → H d = some (.frz o (.dK kvs)))
    (hs : ∀ i k x H, kvs[i]? = some (k, x) → Pv i H → g x (wipe σ vs) H fun σ2 H2 => wipe σ2 vs = wipe σ vs ∧ tt σ2 H2 fun b H3 =>
      if b = true then te σ2 H3 fun y H4 => ∃ acc, H4 D = some (.lst acc) ∧ acc.length < sizeLine ∧ Pv (i + 1) (upd H4 D (.lst (acc ++ [y]))) else Pv (i + 1) H3) (hd : ∀ H, Pv kvs.length H → Qd H) :
    ∃ W : Nat → Nat → Hp → Prop, (∃ m, W 0 m (upd H1 D (.lst []))) ∧ ∀ i m H, W i m H →
      ((Itd d o kvs).stop i H ∧ Qd H) ∨ ((Itd d o kvs).go i H ∧ ∃ Nx : Hp → Prop, (∀ H', Nx H' → ∃ m', m' < m ∧ W (i + 1) m' H') ∧ ∀ x H', (Itd d o kvs).yld i H x H' → g x (wipe σ vs) H' fun σ2 H2 => wipe σ2 vs = wipe σ vs ∧ tt σ2 H2 fun b H3 =>
        if b = true then te σ2 H3 fun y H4 => ∃ acc, H4 D = some (.lst acc) ∧ acc.length < sizeLine ∧ Nx (upd H4 D (.lst (acc ++ [y]))) else Nx H3) := by
  refine ⟨fun i m H => m = kvs.length - i ∧ i ≤ kvs.length ∧ Pv i H, ⟨kvs.length, by simp, Nat.zero_le _, h0⟩, ?_⟩
  rintro i m H ⟨rfl, hi, p⟩
  have q := hl i H hi p
  by_cases hlt : i < kvs.length
  · refine .inr ⟨⟨q, hlt⟩, Pv (i + 1), fun H' p' => ⟨kvs.length - (i + 1), by omega, rfl, hlt, p'⟩, fun x H' y => ?_⟩
    obtain ⟨e, k, y⟩ := y
    subst e
    exact hs i k x _ y p
  · have e : i = kvs.length := by omega
    subst e
    exact .inl ⟨⟨q, Nat.le_refl _⟩, hd H p⟩
/-- for over the values of a locked dict -/
theorem for_vals {d : Addr} {o : Obj} {kvs : List (Key × V)} {g : TG} {tb : TS} {D : Ends} {σ : L2.St} {H : Hp} (Pv : Nat → L2.St → Hp → Prop) (h0 : Pv 0 σ H) (hl : ∀ i σ H, i ≤ kvs.length → Pv i σ H → H d = some (.frz o (.dK kvs)))
    (hs : ∀ i k x σ H, kvs[i]? = some (k, x) → Pv i σ H → g x σ H fun σ2 H2 => tb { D with nx := Pv (i + 1), ct := Pv (i + 1), bk := D.nx } σ2 H2) (hd : ∀ σ H, Pv kvs.length σ H → D.nx σ H) :
    ∃ W : Nat → Nat → L2.St → Hp → Prop, (∃ m, W 0 m σ H) ∧ ∀ i m σ H, W i m σ H →
      ((Itd d o kvs).stop i H ∧ D.nx σ H) ∨ ((Itd d o kvs).go i H ∧ ∃ N : L2.St → Hp → Prop, (∀ σ' H', N σ' H' → ∃ m', m' < m ∧ W (i + 1) m' σ' H') ∧ ∀ x H', (Itd d o kvs).yld i H x H' → g x σ H' fun σ2 H2 => tb { D with nx := N, ct := N, bk := D.nx } σ2 H2) := by
  refine ⟨fun i m σ H => m = kvs.length - i ∧ i ≤ kvs.length ∧ Pv i σ H, ⟨kvs.length, by simp, Nat.zero_le _, h0⟩, ?_⟩
  rintro i m σ H ⟨rfl, hi, p⟩
  have q := hl i σ H hi p
  by_cases hlt : i < kvs.length
  · refine .inr ⟨⟨q, hlt⟩, Pv (i + 1), fun σ' H' p' => ⟨kvs.length - (i + 1), by omega, rfl, hlt, p'⟩, fun x H' y => ?_⟩
    obtain ⟨e, k, y⟩ := y
    subst e
    exact hs i k x σ _ y p
  · have e : i = kvs.length := by omega
    subst e
    exact .inl ⟨⟨q, Nat.le_refl _⟩, hd σ H p⟩
/-- for over enumerate(list), the list left as it is -/
theorem for_enum {K : PySem.W.Frag} {a : Addr} {xs : List V} {g : TG} {tb : TS} {D : Ends} {σ : L2.St} {H : Hp} (Pv : Nat → L2.St → Hp → Prop) (h0 : Pv 0 σ H) (hl : ∀ i σ H, i ≤ xs.length → Pv i σ H → SqL K H a xs)
    (hs : ∀ i x σ H T, xs[i]? = some x → Pv i σ H → H T = none → g (.ref T) σ (upd H T (.tup [.int (i : Nat), x])) fun σ2 H2 => tb { D with nx := Pv (i + 1), ct := Pv (i + 1), bk := D.nx } σ2 H2) (hd : ∀ σ H, Pv xs.length σ H → D.nx σ H) :
    ∃ W : Nat → Nat → L2.St → Hp → Prop, (∃ m, W 0 m σ H) ∧ ∀ i m σ H, W i m σ H →
      ((Ite K a).stop i H ∧ D.nx σ H) ∨ ((Ite K a).go i H ∧ ∃ N : L2.St → Hp → Prop, (∀ σ' H', N σ' H' → ∃ m', m' < m ∧ W (i + 1) m' σ' H') ∧ ∀ x H', (Ite K a).yld i H x H' → g x σ H' fun σ2 H2 => tb { D with nx := N, ct := N, bk := D.nx } σ2 H2) := by
  refine ⟨fun i m σ H => m = xs.length - i ∧ i ≤ xs.length ∧ Pv i σ H, ⟨xs.length, by simp, Nat.zero_le _, h0⟩, ?_⟩
  rintro i m σ H ⟨rfl, hi, p⟩
  have q := hl i σ H hi p
  by_cases hlt : i < xs.length
  · refine .inr ⟨⟨xs, xs[i], q, by simp [hlt]⟩, Pv (i + 1), fun σ' H' p' => ⟨xs.length - (i + 1), by omega, rfl, hlt, p'⟩, fun v H' y => ?_⟩
    obtain ⟨T, x, rfl, hT, rfl, y⟩ := y
    exact hs i x σ _ T (y xs q) p hT
  · have e : i = xs.length := by omega
    subst e
    exact .inl ⟨⟨xs, q, Nat.le_refl _⟩, hd σ H p⟩

/-! ### the data -/
def wf (a b : Nat) (tl tw df ds : Addr) : List (Str × V) :=
  [("lanes", .int a), ("long", .int b), ("lengths", .ref tl), ("worths", .ref tw), ("faults", .ref df), ("sheets", .ref ds)]
def triF (p : Piece) : List V := [.int p.lane, .int p.from_, .int p.to]
def triS (x : Sheet) : List V := [.int x.lane, .int x.from_, .int x.size]
def kvsOf {α : Type} (fs : List (Nat × α × Addr)) : List (Key × V) := fs.map fun q => (Sum.inl (q.1 : Int), V.ref q.2.2)
structure DAt {α : Type} (tri : α → List V) (H : Hp) (d : Addr) (l : List (Nat × α)) (fs : List (Nat × α × Addr)) : Prop where
  eq : l = fs.map fun q => (q.1, q.2.1)
  at_ : H d = some (.dK (kvsOf fs))
  tup : ∀ q ∈ fs, H q.2.2 = some (.tup (tri q.2.1))
def DictAt {α : Type} (tri : α → List V) (H : Hp) (d : Addr) (l : List (Nat × α)) : Prop := ∃ fs, DAt tri H d l fs
structure WebAt (C : Addr) (H : Hp) (p : Addr) (m : M) (dx tl tw df ds : Addr) : Prop where
  obj : H p = some (.ins C dx (wf m.lanes m.long tl tw df ds))
  len : H tl = some (.tup [.int m.short, .int m.tall])
  wor : H tw = some (.tup [.int m.w0, .int m.w1])
  fau : DictAt triF H df m.faults
  she : DictAt triS H ds m.sheets
  ne : df ≠ ds
def Is (C : Addr) (H : Hp) (p : Addr) (m : M) : Prop := ∃ dx tl tw df ds, WebAt C H p m dx tl tw df ds
/-- a list of pairs of numbers -/
structure PAt (H : Hp) (a : Addr) (l : List (Nat × Nat)) (rs : List (Addr × (Nat × Nat))) : Prop where
  eq : l = rs.map (·.2)
  at_ : H a = some (.lst (rs.map fun r => V.ref r.1))
  tup : ∀ r ∈ rs, H r.1 = some (.tup [.int r.2.1, .int r.2.2])
def Pairs (H : Hp) (a : Addr) (l : List (Nat × Nat)) : Prop := ∃ rs, PAt H a l rs

theorem same_upd {H H1 : Hp} {a : Addr} {o : HO} (s : Same H H1) (h : H a = none) : Same H (upd H1 a o) := fun b u e => by
  rw [upd_ne (ne_of_none e h)]
  exact s b u e
theorem same_new {H : Hp} {a : Addr} {o : HO} (h : H a = none) : Same H (upd H a o) := same_upd (Same.refl H) h
section
variable {H H' : Hp}
theorem DictAt.same {α : Type} {tri : α → List V} {d : Addr} {l : List (Nat × α)} (s : Same H H') (h : DictAt tri H d l) : DictAt tri H' d l := by
  obtain ⟨fs, h⟩ := h
  exact ⟨fs, h.eq, s _ _ h.at_, fun q hq => s _ _ (h.tup q hq)⟩
theorem WebAt.same {C p : Addr} {m : M} {dx tl tw df ds : Addr} (s : Same H H') (h : WebAt C H p m dx tl tw df ds) : WebAt C H' p m dx tl tw df ds :=
  ⟨s _ _ h.obj, s _ _ h.len, s _ _ h.wor, h.fau.same s, h.she.same s, h.ne⟩
theorem Is.same {C p : Addr} {m : M} (s : Same H H') (h : Is C H p m) : Is C H' p m := by
  obtain ⟨dx, tl, tw, df, ds, h⟩ := h
  exact ⟨dx, tl, tw, df, ds, h.same s⟩
theorem Pairs.same {a : Addr} {l : List (Nat × Nat)} (s : Same H H') (h : Pairs H a l) : Pairs H' a l := by
  obtain ⟨rs, h⟩ := h
  exact ⟨rs, h.eq, s _ _ h.at_, fun r hr => s _ _ (h.tup r hr)⟩
end
/-- one of the two sizes -/
theorem at2 {a b z : Nat} (h : z ≤ 1) : atI [V.int a, V.int b] (z : Int) = some (.int ((if z = 0 then a else b : Nat) : Int)) := by
  have : z = 0 ∨ z = 1 := by omega
  rcases this with rfl | rfl
  · rfl
  · rfl

/-! ### what the top has written -/
structure Txt (K : PySem.W.Frag) (mg : Str → Option Value) (C : Addr) : Prop where
  cl : Cls K C
  nlanes : NoAttr K C "lanes"
  nlong : NoAttr K C "long"
  nlengths : NoAttr K C "lengths"
  nworths : NoAttr K C "worths"
  nfaults : NoAttr K C "faults"
  nsheets : NoAttr K C "sheets"
  cWRONG : ∃ t, mg "WRONG" = some (.int (-22) t)
  cNONE_SUCH : ∃ t, mg "NONE_SUCH" = some (.int (-2) t)
  cNOT_STARTED : ∃ t, mg "NOT_STARTED" = some (.int (-11) t)
  cTAKEN : ∃ t, mg "TAKEN" = some (.int (-16) t)
  cFULL : ∃ t, mg "FULL" = some (.int (-28) t)
  cNONE_THERE : ∃ t, mg "NONE_THERE" = some (.int (-33) t)
  cMOST_LANES : ∃ t, mg "MOST_LANES" = some (.int 3 t)
  cMOST_PLACES : ∃ t, mg "MOST_PLACES" = some (.int 80 t)
  cLONGEST_SHEET : ∃ t, mg "LONGEST_SHEET" = some (.int 60 t)
  cMOST_WORTH : ∃ t, mg "MOST_WORTH" = some (.int 1000 t)
  cMOST_FAULTS : ∃ t, mg "MOST_FAULTS" = some (.int 8 t)
  cMOST_SHEETS : ∃ t, mg "MOST_SHEETS" = some (.int 30 t)
  cSHORT : ∃ t, mg "SHORT" = some (.int 0 t)
  cTALL : ∃ t, mg "TALL" = some (.int 1 t)
  blen : mg "len" = none
  bsum : mg "sum" = none
  blist : mg "list" = none
  brange : mg "range" = none
  benumerate : mg "enumerate" = none
  bmax : mg "max" = none
  bsorted : mg "sorted" = none
  bdict : mg "dict" = none
end Fw

end

section
set_option Elab.async false
set_option linter.all false
set_option maxRecDepth 100000
set_option maxHeartbeats 4000000
namespace Fw
open PySem PySem.Spec PyProof.Rows L2

/-! ### a def that is called by a value -/
section
variable {X : Cx} {fe e i : Expr} {es : List Expr} {tf ty : TE} {t : TA} {pos p : Pos} {x : Str}
def tCallV (X : Cx) (tf : TE) (t : TA) : TE := fun σ H Q => tf σ H fun x H1 => ∃ (f : Addr) (fd : FuncData) (k : Nat) (ps : List Str) (sp : Sp), x = .ref f ∧ PySem.W.keepIn X.K (.ref f) = true ∧ Binds X.K fd ps [] ∧
  FnOk X.prog X.w X.K X.mg X.base CX0 k f fd ps sp ∧ Room k X.A ∧ t σ H1 fun vs H2 => sp (vs ++ []) H2 Q E0
theorem pe_callV (hf : PE X fe tf) (ha : PA X (e :: es) t)
    (hev : eval (.Call fe (e :: es) [] pos) X.env = (eval fe X.env >>= fun v => callWith pos v [] (backTo pos (starEach (e :: es) X.env)) (backToKw pos (keywordEach [] X.env))) := by rfl)
    (he : starEach (e :: es) X.env = (false, eval e X.env) :: starEach es X.env := by rfl) (hpl : (backTo pos (starEach es X.env)).any (·.1) = false := by rfl) :
    PE X (.Call fe (e :: es) [] pos) (tCallV X tf t) := by
  intro pins s σ H Q I h
  have h := hf pins s σ H _ I h
  rw [hev]
  refine wpAny_bind (thn h fun u s1 ⟨x, H1, I1, rx, f, fd, k, ps, sp, ex, hk, hb, F, hr, q1⟩ => ?_)
  subst ex
  obtain rfl : u = Value.ref f := rx
  refine PySem.W.callWith_K (h₀ := X.base) I1.ok.mod.kin hk (thn (ha pos pins s1 σ H1 _ I1 q1) fun us s2 ⟨vs, H2, I2, r, q⟩ => ⟨I2.kIn, ?_⟩) he hpl
  exact run_fn F hr hb .nil pass0 I2 r q
/-- a dict of the module: its keys and values -/
def TabIs (P : Program) (w : World) (K : PySem.W.Frag) (d : Addr) (kvs : List (Key × Value)) : Prop :=
  ∃ o es ep, K.lookup d = some o ∧ o.ExactDict ∧ o.data = .dict es ep ∧ KeysOf (mixKind P w) es ∧ PySem.Pairs (mixKind P w) es.toList kvs ∧ (kvs.map (·.1)).Nodup
def tTab (kvs : List (Key × Value)) (ty : TE) : TE := fun σ H Q => ty σ H fun y H1 => ∃ (c : Int) (f : Addr), y = .int c ∧ valueAt kvs (Sum.inl c) = some (.ref f) ∧ Q (.ref f) H1
theorem pe_tab {d : Addr} {kvs : List (Key × Value)} (h0 : X.mg x = some (.ref d)) (T : TabIs X.prog X.w X.K d kvs) (hi : PE X i ty) (hs : NoSl i) (hg : Gl X x := by rfl) (hd : (x == ("__debug__" : Str)) = false := by decide) :
    PE X (.Subscript (.Name x p) i pos) (tTab kvs ty) := by
  intro pins s σ H Q I h
  refine subD_of PySem.F.slot_dict_getitem.lookup hs (ld_glob I hg h0 (thn (hi pins s σ H _ I h) fun iv s2 ⟨y, H2, I2, ry, c, f, ey, hv, q2⟩ => ?_) hd)
  subst ey
  obtain ⟨o, es, ep, h1, h2, h3, h4, h5, h6⟩ := T
  have dd : s2.heap.DictOf (mixKind X.prog X.w) d kvs := ⟨o, es, ep, I2.kIn d o h1, h2, h3, h4, h5, h6⟩
  exact ⟨dd.typeIs, wpAny_getItem_of (kV_is (k := Sum.inl c) ry) dd.mapOf hv ⟨.ref f, H2, I2.tok _, rfl, q2⟩⟩
end

/-! ### dict(d), sorted(d), xs.count(y) -/
section
variable {X : Cx}
theorem cr_dictD : CallR X (.type "dict") (fun xs H Q => ∃ (a : Addr) (kvs : List (Key × V)), xs = [.ref a] ∧ H a = some (.dK kvs) ∧ ∀ p, H p = none → Q (.ref p) (upd H p (.dK kvs))) := by
  intro pins s σ H xs us Q I r q
  obtain ⟨a, kvs, ex, e, q⟩ := q
  subst ex
  rw [Vals.ref1 r]
  obtain ⟨z, hd, vs, rel, dd⟩ := dk_of I.hok e
  refine kt_call_dict (knd := mixKind X.prog X.w) hd dd (by rw [← rel.length]; exact z) fun h' hd' hs => ?_
  have hm : (s.heap.objs.size == sysModules) = false := beq_eq_false_iff_ne.mpr (Nat.ne_of_gt I.big)
  exact ⟨.ref s.heap.objs.size, upd H s.heap.objs.size (.dK kvs), I.laid (t' := s.toks) (fun b o e => hs.extBut b o (Nat.ne_of_lt (Heap.lt_size e)) (Heap.get?_push_of_some _ e)) (Nat.le_refl _) (show ObjOk X.prog X.w _ _ _ (.dK kvs) from ⟨z, hm, vs, rel, hd'⟩), rfl, q _ (I.hok.fresh (Nat.le_refl _))⟩
theorem ints_of_keys : ∀ {us : List Value} {ns : List Int}, us.length = ns.length → (∀ (j : Nat) (v : Value) (n : Int), us[j]? = some v → ns[j]? = some n → ∃ t, v = .int n t) → IntsAre us ns
  | [], [], _, _ => .nil
  | u :: us, n :: ns, hl, h => by
    obtain ⟨t, rfl⟩ := h 0 u n rfl rfl
    exact .cons n t (ints_of_keys (by simpa using hl) fun j v m h1 h2 => h (j + 1) v m (by simpa using h1) (by simpa using h2))
def rSortedD : List V → Hp → VK → Prop := fun vs H Q => ∃ (a : Addr) (kvs : List (Key × V)) (ns : List Int), vs = [V.ref a] ∧ H a = some (.dK kvs) ∧ kvs.map (·.1) = ns.map Sum.inl ∧ ns.length < 64 ∧
  ∀ (ns' : List Int) (p : Addr), ns'.Perm ns → ns'.Pairwise (· ≤ ·) → H p = none → Q (.ref p) (upd H p (.lst (ns'.map V.int)))
theorem cr_sortedD (hc : X.calm = true) : CallR X (.builtin "sorted") rSortedD := by
  intro pins s σ H vs us Q I r h
  obtain ⟨a, kvs, ns, rfl, e, hk, h64, q⟩ := h
  rw [Vals.ref1 r]
  obtain ⟨z, hd, ws, rel, dd⟩ := dk_of I.hok e
  obtain ⟨ep, hat⟩ := dd.dictAt
  have hkl : kvs.length = ns.length := by
    have e := congrArg List.length hk
    rw [List.length_map, List.length_map] at e
    exact e
  have hwl : ws.length = ns.length := by rw [← rel.length]; exact hkl
  have hwk : ∀ (j : Nat) (n : Int), ns[j]? = some n → ∀ k x, ws[j]? = some (k, x) → k = Sum.inl n := fun j n hn k x hw => by
    have hj : j < kvs.length := by rw [hkl]; exact (List.getElem?_eq_some_iff.mp hn).1
    have e1 : (kvs.map (·.1))[j]? = some (Sum.inl n) := by rw [hk, List.getElem?_map, hn]; rfl
    rw [List.getElem?_map, List.getElem?_eq_getElem hj] at e1
    have e1 := Option.some.inj e1
    have key : ∀ {l : List (Key × V)} {m : List (Key × Value)}, KV l m → ∀ (j : Nat) (p : Key × V) (q : Key × Value), l[j]? = some p → m[j]? = some q → p.1 = q.1 := by
      intro l m hr
      induction hr with
      | nil => intro j p q h1; simp at h1
      | cons hh _ ih =>
        intro j p q h1 h2
        cases j with
        | zero =>
          have h1 := Option.some.inj (by simpa using h1)
          have h2 := Option.some.inj (by simpa using h2)
          subst h1 h2
          exact hh.1
        | succ j => exact ih j p q (by simpa using h1) (by simpa using h2)
    have e2 := key rel j _ _ (List.getElem?_eq_getElem hj) hw
    exact e2.symm.trans e1
  refine Calls.call_function_entry (id := "sorted") kind_sorted plain_sorted entry_sorted (args_sorted1 _) ?_
  unfold Builtin.«sorted»
  refine wpAny_bind (m := checkCount "sorted" 1 1 _) (wpAny_pure (wpAny_bind (PySem.W.kdu_collect (A := X.A.in1) (PySem.W.kdl_dict (knd := mixKind X.prog X.w) (kvs := ws) (ep := ep) hd) (I.ok.hd hc) hat (by rw [hwl]; exact small64 h64) fun h' tk acc hk' hacc => ?_)))
  have hal : acc.toList.length = ns.length := by rw [Array.length_toList, hacc.1, hwl]
  have hI : IntsAre acc.toList ns := ints_of_keys hal fun j v n h1 h2 => by
    obtain ⟨k, x, hw, hkv⟩ := hacc.2 j v (by rw [← Array.getElem?_toList]; exact h1)
    have ek := hwk j n h2 k x hw
    subst ek
    rcases keyIs_shape (show keyIs (Sum.inl n) v = true from hkv) with ⟨i, t, e1, e2⟩ | ⟨y, t, e1, e2⟩
    · have := Sum.inl.inj e1
      subst this
      exact ⟨t, e2⟩
    · cases e1
  refine wpAny_bind (wpAny_newList ?_ (by rw [hal]; exact small64 h64))
  have hoL : (h'.push { cls := .type "list", data := .seq acc.toList.toArray }).get? h'.objs.size = some (seqObj "list" acc.toList.toArray 0) := Heap.get?_push_size _ rfl
  have I' : Inv X pins σ H { s with heap := h', toks := tk } := I.kept hk'
  refine wpAny_bind (wpAny_holding (wpAny_call_entry slot_list_sort ⟨_, hoL, rfl⟩ entry_list_sort (list_sort_tree hoL hI (by rw [hal]; exact h64) fun out ns' a1 a2 a3 => ⟨_, rfl, wpAny_pure ⟨_, rfl, ?_⟩⟩) (args_list_sort _)))
  obtain ⟨ep', he'⟩ := sortedHeap_at (vs := acc.toList) (out := out) hoL
  have hlen : (ns'.map V.int).length ≤ sizeLine := by rw [List.length_map, a2.length_eq]; exact small64 h64
  exact ⟨.ref h'.objs.size, upd H h'.objs.size (.lst (ns'.map V.int)), I'.laid (t' := tk) (fun b o e => by rw [sortedHeap_old (Nat.ne_of_lt (Heap.lt_size e)) (by rw [size_push']; exact Nat.lt_succ_of_lt (Heap.lt_size e))]; exact Heap.get?_push_of_some _ e) (Nat.le_refl _) ⟨hlen, out.toList, ep', vals_of_ints a1, he'⟩, rfl, q ns' _ a2 a3 (I'.hok.fresh (Nat.le_refl _))⟩
theorem count_eqU {x : V} : ∀ {xs : List V} {us : List Value}, Vals xs us → xs.all flatV = true → us.countP (eqU x) = xs.countP fun y => eqV y x
  | _, _, .nil, _ => rfl
  | y :: xs, u :: us, .cons r t, f => by
    rw [List.all_cons, Bool.and_eq_true] at f
    rw [List.countP_cons, List.countP_cons, count_eqU t f.2, eqU_of r f.1]
def rCountL (K : PySem.W.Frag) : V → List V → Hp → VK → Prop := fun x xs H Q => ∃ (a : Addr) (ys : List V) (y : V), x = V.ref a ∧ xs = [y] ∧ SqL K H a ys ∧ flatV y = true ∧ ys.all flatV = true ∧ Q (.int ((ys.countP fun z => eqV z y : Nat) : Int)) H
theorem mt_countL : MtR X "list.count" (rCountL X.K) := by
  intro pins s σ H x xs v us Q I rx rxs h
  obtain ⟨a, ys, y, rfl, rfl, hs, fy, fys, q⟩ := h
  cases rx
  obtain ⟨uy, rfl, ry⟩ := rxs.one
  obtain ⟨its, rv, ⟨⟨cls, dd, data, sl⟩, n, ho, hc, hdn, hd⟩, hlen⟩ := I.list hs
  have hc : cls = .type "list" := hc
  have hd : data = .seq its.toArray n := hd
  subst hc hd
  refine call_meets PySem.F.slot_list_count ⟨_, ho, rfl⟩ PySem.F.entry_list_count (PySem.F.args_list_count_2 _ _) (SeqAt.list_countAt a its.toArray n dd sl uy (eqU y)) ⟨ho, fun u' hu' => mem_eqAt ry fy rv fys u' (by simpa using hu'), ?_⟩
  rw [show its.toArray.toList = its from rfl, count_eqU rv fys]
  exact ⟨.int _, H, I.tok _, ⟨_, rfl⟩, q⟩
end
end Fw

end

section
set_option Elab.async false
set_option linter.all false
set_option maxRecDepth 100000
set_option maxHeartbeats 4000000
namespace Fw
open PySem PySem.Spec PyProof.Rows L2
open Kqb1 (Piece Sheet Web)
open Fc (M Rel Good)

/-! ### tests that change nothing -/
def Det (t : TT) (σ : L2.St) (H : Hp) (b : Bool) : Prop := ∀ Q : Bool → Hp → Prop, Q b H → t σ H Q
theorem Det.or {t u : TT} {σ : L2.St} {H : Hp} {b c : Bool} (h : Det t σ H b) (g : Det u σ H c) : Det (tOr t u) σ H (b || c) := fun Q q => h _ (by
  cases b with
  | true => exact iteT q
  | false => exact iteF (g Q q))
theorem Det.and {t u : TT} {σ : L2.St} {H : Hp} {b c : Bool} (h : Det t σ H b) (g : Det u σ H c) : Det (tAnd t u) σ H (b && c) := fun Q q => h _ (by
  cases b with
  | true => exact iteT (g Q q)
  | false => exact iteF q)
theorem Det.not {t : TT} {σ : L2.St} {H : Hp} {b : Bool} (h : Det t σ H b) : Det (tNot t) σ H (!b) := fun Q q => h _ q
theorem Det.ifs {c : TT} {t u : TS} {D : Ends} {σ : L2.St} {H : Hp} {b : Bool} (h : Det c σ H b) (h1 : b = true → t D σ H) (h2 : b = false → u D σ H) : tIfS c t u D σ H := h _ (by
  cases b with
  | true => exact iteT (h1 rfl)
  | false => exact iteF (h2 rfl))
theorem Det.seq {c : TT} {t1 t2 u : TS} {D : Ends} {σ : L2.St} {H : Hp} {b : Bool} (h : Det c σ H b) (h1 : b = true → t1 { D with nx := u D } σ H) (h2 : b = false → t2 { D with nx := u D } σ H) : tSeq (tIfS c t1 t2) u D σ H := Det.ifs h h1 h2

/-- .. where nothing is done else -/
theorem Det.seqN {c : TT} {t1 u : TS} {D : Ends} {σ : L2.St} {H : Hp} {b : Bool} (h : Det c σ H b) (h1 : b = true → t1 { D with nx := u D } σ H) (h2 : b = false → u D σ H) : tSeq (tIfS c t1 tNext) u D σ H := Det.ifs h h1 h2
theorem dq {p q : Prop} [Decidable p] [Decidable q] {Q : Bool → Hp → Prop} {H : Hp} (h : Q (decide p) H) (e : p ↔ q) : Q (decide q) H := by
  rw [← decide_eq_decide.mpr e]
  exact h
theorem vint {a b : Int} : V.int a = V.int b ↔ a = b := ⟨fun h => by cases h; rfl, fun h => by rw [h]⟩
section
variable {P : Program} {w : World} {K : PySem.W.Frag} {mg : Str → Option Value} {base : Heap} {C f : Addr} {fd : FuncData}
/-! ### Web.__init__ -/
abbrev sInit : Stmt := inClass (top 17) 0
def spInit (C : Addr) : Sp := fun vs H Q _ => ∃ (p dx tl tw : Addr) (a b : Nat), vs = [.ref p, .int a, .int b, .ref tl, .ref tw] ∧ H p = some (.ins C dx []) ∧
  ∀ (H' : Hp) (df ds : Addr), H' p = some (.ins C dx (wf a b tl tw df ds)) → H' df = some (.dK []) → H' ds = some (.dK []) → df ≠ ds → (∀ q o, H q = some o → q ≠ p → H' q = some o) → Q .non H'
theorem scInit : FnScope ["self", "lanes", "long", "lengths", "worths"] ["self", "lanes", "long", "lengths", "worths"] (defScope sInit) := ⟨rfl, rfl, rfl, by decide +kernel, rfl, by decide +kernel, by decide +kernel⟩
theorem ok_init (F : Fun K "__init__" "Web.__init__" sInit f fd) (T : Txt K mg C) : FnOk P w K mg base CX0 1 f fd ["self", "lanes", "long", "lengths", "worths"] (spInit C) := by
  refine F.ok scInit (fun vs H Q E h => ?_) (fun cdv A outer s H vs Q E hr h => ?_)
  · obtain ⟨p, dx, tl, tw, a, b, rfl, _⟩ := h
    rfl
  · obtain ⟨p, dx, tl, tw, a, b, rfl, hp, k⟩ := h
    refine ⟨_, pss_cons (ps_fld (pv 0) (pv 1) rfl) (pss_cons (ps_fld (pv 0) (pv 2) rfl) (pss_cons (ps_fld (pv 0) (pv 3) rfl) (pss_cons (ps_fld (pv 0) (pv 4) rfl) (pss_cons (ps_fld (pv 0) pe_dnewK rfl) (pss_one (ps_fld (pv 0) pe_dnewK rfl)))))), ?_⟩
    refine ⟨_, rfl, _, rfl, p, C, dx, [], rfl, hp, T.cl, T.nlanes, (by show 0 < 1000; decide), ?_⟩
    refine ⟨_, rfl, _, rfl, p, C, dx, _, rfl, upd_same, T.cl, T.nlong, (by show 1 < 1000; decide), ?_⟩
    refine ⟨_, rfl, _, rfl, p, C, dx, _, rfl, upd_same, T.cl, T.nlengths, (by show 2 < 1000; decide), ?_⟩
    refine ⟨_, rfl, _, rfl, p, C, dx, _, rfl, upd_same, T.cl, T.nworths, (by show 3 < 1000; decide), ?_⟩
    rw [upd_upd, upd_upd, upd_upd]
    intro df hdf
    have e1 : p ≠ df := fun z => by
      rw [← z, upd_same] at hdf
      cases hdf
    refine ⟨_, rfl, p, C, dx, _, rfl, (by rw [upd_ne e1]; exact upd_same), T.cl, T.nfaults, (by show 4 < 1000; decide), ?_⟩
    intro ds hds
    have e2 : p ≠ ds := fun z => by
      rw [← z, upd_same] at hds
      cases hds
    have e3 : df ≠ ds := fun z => by
      rw [← z, upd_ne e1.symm, upd_same] at hds
      cases hds
    refine ⟨_, rfl, p, C, dx, _, rfl, (by rw [upd_ne e2]; exact upd_same), T.cl, T.nsheets, (by show 5 < 1000; decide), ?_⟩
    refine k _ df ds upd_same ?_ ?_ e3 ?_
    · rw [upd_ne e1.symm, upd_ne e3, upd_ne e1.symm, upd_same]
    · rw [upd_ne e2.symm, upd_same]
    · intro q o hq hqp
      have n1 : q ≠ df := fun z => by
        rw [← z, upd_ne hqp, hq] at hdf
        cases hdf
      have n2 : q ≠ ds := fun z => by
        rw [← z, upd_ne hqp, upd_ne n1, upd_ne hqp, hq] at hds
        cases hds
      rw [upd_ne hqp, upd_ne n2, upd_ne hqp, upd_ne n1, upd_ne hqp]
      exact hq

/-! ### may_start -/
def okStart (a b c d e g : Nat) : Bool := !(decide (a < 1) || (decide (3 < a) || decide (80 < b))) && (!(decide (c = 0) || (decide (d ≤ c) || decide (60 < d))) && (decide (e ≤ 1000) && decide (g ≤ 1000)))
abbrev pMay : List Str := ["lanes", "long", "short", "tall", "w0", "w1"]
def spMay : Sp := fun vs H Q _ => ∃ a b c d e g : Nat, vs = [.int a, .int b, .int c, .int d, .int e, .int g] ∧ Q (.bl (okStart a b c d e g)) H
theorem scMay : FnScope pMay pMay (defScope (top 18)) := ⟨rfl, rfl, rfl, by decide +kernel, rfl, by decide +kernel, by decide +kernel⟩
theorem ok_may (F : Fun K "may_start" "may_start" (top 18) f fd) (T : Txt K mg C) : FnOk P w K mg base CX0 1 f fd pMay spMay := by
  refine F.ok scMay (fun vs H Q E h => ?_) (fun cdv A outer s H vs Q E hr h => ?_)
  · obtain ⟨a, b, c, d, e, g, rfl, _⟩ := h
    rfl
  · obtain ⟨a, b, c, d, e, g, rfl, k⟩ := h
    refine ⟨_, (pss_cons (ps_if (PW.pt (pw_or (pt_cmpR op_lt (pv 0) pe_int (nomark _)) (pw_or (pt_cmpR op_gt (pv 0) (pe_gint T.cMOST_LANES) (nomark _)) (pw_or1 (pt_cmpR op_gt (pv 1) (pe_gint T.cMOST_PLACES) (nomark _))))))
      (pss_one (ps_ret pe_bl)) pss_nil)
      (pss_cons (ps_if (PW.pt (pw_or (pt_cmpR op_eq (pv 2) pe_int (nomark _)) (pw_or (pt_cmpR op_le (pv 3) (pv 2) (nomark _)) (pw_or1 (pt_cmpR op_gt (pv 3) (pe_gint T.cLONGEST_SHEET) (nomark _))))))
      (pss_one (ps_ret pe_bl)) pss_nil)
      (pss_one (ps_ret (pe_and (pe_cmpR op_le (pv 4) (pe_gint T.cMOST_WORTH) (nomark _)) (pe_one (pe_cmpR op_le (pv 5) (pe_gint T.cMOST_WORTH) (nomark _)))))))), ?_⟩
    unfold okStart at k
    refine Det.seqN (Det.or (b := decide (a < 1)) (fun Q q => ⟨_, rfl, _, _, rfl, rfl, _, rfl, dq q (by omega)⟩) (Det.or (b := decide (3 < a)) (c := decide (80 < b)) (fun Q q => ⟨_, rfl, _, _, rfl, rfl, _, rfl, dq q (by omega)⟩) (fun Q q => ⟨_, rfl, _, _, rfl, rfl, _, rfl, dq q (by omega)⟩))) (fun h1 => ?_) (fun h1 => ?_)
    · rw [h1] at k
      exact k
    refine Det.seqN (Det.or (b := decide (c = 0)) (fun Q q => ⟨_, rfl, rfl, _, rfl, dq q (by rw [vint]; omega)⟩) (Det.or (b := decide (d ≤ c)) (c := decide (60 < d)) (fun Q q => ⟨_, rfl, _, rfl, _, _, rfl, rfl, _, rfl, dq q (by omega)⟩) (fun Q q => ⟨_, rfl, _, _, rfl, rfl, _, rfl, dq q (by omega)⟩))) (fun h2 => ?_) (fun h2 => ?_)
    · rw [h1, h2] at k
      exact k
    rw [h1, h2] at k
    refine ⟨_, rfl, _, _, rfl, rfl, _, rfl, ?_⟩
    by_cases he : e ≤ 1000
    · rw [decide_eq_true (show (e : Int) ≤ 1000 by omega)]
      rw [decide_eq_true he] at k
      refine iteT ⟨_, rfl, _, _, rfl, rfl, ?_⟩
      show Q (V.bl (decide ((g : Int) ≤ 1000))) H
      rw [show decide ((g : Int) ≤ 1000) = decide (g ≤ 1000) from decide_eq_decide.mpr (by omega)]
      exact k
    · rw [decide_eq_false (show ¬ (e : Int) ≤ 1000 by omega)]
      rw [decide_eq_false he] at k
      exact iteF k

/-! ### started_web -/
def newM (a b c d e g : Nat) : M := ⟨a, b, c, d, e, g, [], []⟩
/-- a web is made, or None is given -/
def spStarted (C : Addr) : Sp := fun vs H Q _ => ∃ a b c d e g : Nat, vs = [.int a, .int b, .int c, .int d, .int e, .int g] ∧ (okStart a b c d e g = false → Q .non H) ∧
  (okStart a b c d e g = true → ∀ (H' : Hp) (p : Addr), Same H H' → Is C H' p (newM a b c d e g) → Q (.ref p) H')
theorem scStarted : FnScope pMay pMay (defScope (top 19)) := ⟨rfl, rfl, rfl, by decide +kernel, rfl, by decide +kernel, by decide +kernel⟩
theorem ok_started (F : Fun K "started_web" "started_web" (top 19) f fd) (T : Txt K mg C) (G1 : Callee P w K mg base "may_start" 1 pMay spMay) (G2 : Maker P w K mg base "Web" C 1 ["self", "lanes", "long", "lengths", "worths"] (spInit C)) : FnOk P w K mg base CX0 3 f fd pMay (spStarted C) := by
  refine F.ok scStarted (fun vs H Q E h => ?_) (fun cdv A outer s H vs Q E hr h => ?_)
  · obtain ⟨a, b, c, d, e, g, rfl, _⟩ := h
    rfl
  · obtain ⟨a, b, c, d, e, g, rfl, k1, k2⟩ := h
    refine ⟨_, (pss_cons (ps_if (pt_not (pt_val (pe_fn G1 (hr.mono (by decide)) (pa_cons (pv 0) (pa_cons (pv 1) (pa_cons (pv 2) (pa_cons (pv 3) (pa_cons (pv 4) (pa_cons (pv 5) pa_nil)))))))))
      (pss_one (ps_ret pe_non)) pss_nil)
      (pss_one (ps_ret (pe_mk G2 hr (pa_cons (pv 0) (pa_cons (pv 1) (pa_cons (pe_tup (pa_cons (pv 2) (pa_cons (pv 3) pa_nil))) (pa_cons (pe_tup (pa_cons (pv 4) (pa_cons (pv 5) pa_nil))) pa_nil)))))))), ?_⟩
    refine Det.seqN (Det.not (b := okStart a b c d e g) (fun Q q => ⟨_, rfl, _, rfl, _, rfl, _, rfl, _, rfl, _, rfl, a, b, c, d, e, g, rfl, _, rfl, q⟩)) (fun h1 => ?_) (fun h1 => ?_)
    · exact k1 (by simpa using h1)
    · have h1 : okStart a b c d e g = true := by simpa using h1
      refine ⟨_, rfl, _, rfl, _, rfl, _, rfl, (by show 2 ≤ sizeLine; decide), fun tl htl => ?_⟩
      refine ⟨_, rfl, _, rfl, (by show 2 ≤ sizeLine; decide), fun tw htw => ?_⟩
      intro x dx hx hdx hne
      have n1 : tl ≠ tw := fun z => by
        rw [← z, upd_same] at htw
        cases htw
      have hl1 : (upd (upd H tl (.tup [.int c, .int d])) tw (.tup [.int e, .int g])) tl = some (.tup [.int c, .int d]) := by
        rw [upd_ne n1]
        exact upd_same
      have hw1 : (upd (upd H tl (.tup [.int c, .int d])) tw (.tup [.int e, .int g])) tw = some (.tup [.int e, .int g]) := upd_same
      have s1 : Same H (upd (upd H tl (.tup [.int c, .int d])) tw (.tup [.int e, .int g])) := same_upd (same_new htl) ((same_new htl).free htw)
      generalize upd (upd H tl (.tup [.int c, .int d])) tw (.tup [.int e, .int g]) = H1 at hx hdx hl1 hw1 s1
      refine ⟨x, dx, tl, tw, a, b, rfl, upd_same, fun H' df ds h1' h2' h3' h4' h5' => ⟨rfl, ?_⟩⟩
      have kp : Same H1 H' := Same.made hx hdx fun b o e hb => h5' b o e hb
      exact k2 h1 H' x (s1.trans kp) ⟨dx, tl, tw, df, ds, h1', kp _ _ hl1, kp _ _ hw1, ⟨[], rfl, h2', fun q hq => by cases hq⟩, ⟨[], rfl, h3', fun q hq => by cases hq⟩, h4'⟩

/-! ### least_free -/
/-- the least number that is no key -/
def leastFree {α : Type} (d : List (Nat × α)) (n : Nat) : Prop := n ∉ d.map (·.1) ∧ ∀ i, i < n → i ∈ d.map (·.1)
def spLeast : Sp := fun vs H Q _ => ∃ (d : Addr) (ks : List Nat) (kvs : List (Key × V)) (B : Nat), vs = [.ref d] ∧ H d = some (.dK kvs) ∧ kvs.map (·.1) = ks.map (fun n : Nat => (Sum.inl (n : Int) : Key)) ∧ (∀ n ∈ ks, n < B) ∧ ∀ n : Nat, n ∉ ks → (∀ i, i < n → i ∈ ks) → Q (.int n) H
theorem scLeast : FnScope ["numbered", "number"] ["numbered"] (defScope (top 20)) := ⟨rfl, rfl, rfl, by decide +kernel, rfl, by decide +kernel, by decide +kernel⟩
theorem key_in {ks : List Nat} {n : Nat} : (Sum.inl (n : Int) : Key) ∈ ks.map (fun n : Nat => (Sum.inl (n : Int) : Key)) ↔ n ∈ ks := by
  rw [List.mem_map]
  constructor
  · rintro ⟨a, h, e⟩
    have e : (a : Int) = n := Sum.inl.inj e
    have e : a = n := by omega
    rw [← e]
    exact h
  · intro h
    exact ⟨n, h, rfl⟩
theorem ok_least (F : Fun K "least_free" "least_free" (top 20) f fd) : FnOk P w K mg base CX0 1 f fd ["numbered"] spLeast := by
  refine F.ok scLeast (fun vs H Q E h => ?_) (fun cdv A outer s H vs Q E hr h => ?_)
  · obtain ⟨d, ks, kvs, B, rfl, _⟩ := h
    rfl
  · obtain ⟨d, ks, kvs, B, rfl, hd, hk, hB, k⟩ := h
    have nd := scLeast.nd
    have hu := hu_of hr
    refine ⟨_, (pss_cons (ps_set (i := 1) nd rfl (Or.inl rfl) pe_int)
      (pss_cons (ps_while PassesOwn.never (pt_cmp (pc_din hu (pv 1) (pv 0)))
      (pss_one (ps_aug (i := 1) nd rfl (Or.inl rfl) pe_int ip_add)))
      (pss_one (ps_ret (pv 1))))), ?_⟩
    refine while_by (fun σ H' => ∃ n : Nat, σ = [some (.ref d), some (.int n)] ∧ H' = H ∧ ∀ i, i < n → i ∈ ks) (fun σ _ => match σ with | [_, some (.int n)] => B - n.toNat | _ => 0) ⟨0, rfl, rfl, fun i h => by omega⟩ ?_ ?_
    · rintro σ H' ⟨n, rfl, rfl, hn⟩
      refine ⟨_, rfl, _, rfl, d, _, rfl, DGet.k (k := Sum.inl (n : Int)) hd, _, rfl, ?_⟩
      cases e : valV kvs (Sum.inl (n : Int)) with
      | none =>
        refine iteF ⟨_, rfl, k n (fun hm => ?_) hn⟩
        exact valV_not e (by rw [hk]; exact key_in.mpr hm)
      | some v =>
        have hm : n ∈ ks := by
          have z := valV_in e
          rw [hk] at z
          exact key_in.mp z
        have hb := hB n hm
        refine iteT ⟨_, rfl, _, _, rfl, rfl, ⟨n + 1, rfl, rfl, fun i hi => ?_⟩, ?_⟩
        · by_cases z : i = n
          · rw [z]
            exact hm
          · exact hn i (by omega)
        · show B - ((n : Int) + 1).toNat < B - ((n : Int)).toNat
          omega
    · rintro σ H Q Q' imp ⟨v, h1, v2, h2, a, o, h3, h4, c, h5, h6⟩
      exact ⟨v, h1, v2, h2, a, o, h3, h4, c, h5, imp _ _ h6⟩
end
end Fw

end

section
set_option Elab.async false
set_option linter.all false
set_option maxRecDepth 100000
set_option maxHeartbeats 4000000
namespace Fw
open PySem PySem.Spec PyProof.Rows L2
open Kqb1 (Piece Sheet Web)
open Fc (M Rel Good)

/-! ### lists -/
theorem kvs_at {α : Type} {fs : List (Nat × α × Addr)} {i : Nat} {k : Key} {x : V} (h : (kvsOf fs)[i]? = some (k, x)) : ∃ q, fs[i]? = some q ∧ x = .ref q.2.2 := by
  unfold kvsOf at h
  rw [List.getElem?_map] at h
  cases e : fs[i]? with
  | none => rw [e] at h; cases h
  | some q =>
    rw [e] at h
    have h' := Option.some.inj h
    exact ⟨q, rfl, (congrArg Prod.snd h').symm⟩
theorem map_at {α β : Type} {f : α → β} {l : List α} {i : Nat} {y : β} (h : (l.map f)[i]? = some y) : ∃ x, l[i]? = some x ∧ y = f x := by
  rw [List.getElem?_map] at h
  cases e : l[i]? with
  | none => rw [e] at h; cases h
  | some x => rw [e] at h; exact ⟨x, rfl, (Option.some.inj h).symm⟩
theorem take_snoc {α : Type} {l : List α} {i : Nat} {x : α} (h : l[i]? = some x) : l.take (i + 1) = l.take i ++ [x] := by
  obtain ⟨hl, e⟩ := List.getElem?_eq_some_iff.mp h
  rw [List.take_succ, h]; rfl
theorem lt_of_at {α : Type} {l : List α} {i : Nat} {x : α} (h : l[i]? = some x) : i < l.length := (List.getElem?_eq_some_iff.mp h).1
theorem mem_of_at {α : Type} {l : List α} {i : Nat} {x : α} (h : l[i]? = some x) : x ∈ l := List.mem_of_getElem? h

section
variable {P : Program} {w : World} {K : PySem.W.Frag} {mg : Str → Option Value} {base : Heap} {C f : Addr} {fd : FuncData}
/-! ### taken_by_faults, taken_by_sheets -/
def takenF (m : M) (k : Nat) : List (Nat × Nat) := (m.faults.filter fun q => q.2.lane == k).map fun q => (q.2.from_, q.2.to)
def takenS (m : M) (k : Nat) : List (Nat × Nat) := (m.sheets.filter fun q => q.2.lane == k).map fun q => (q.2.from_, q.2.from_ + m.size q.2.size)
/-- what a def of a web and a lane gives: a list of pairs -/
def spPairs (C : Addr) (g : M → Nat → List (Nat × Nat)) : Sp := fun vs H Q _ => ∃ (p : Addr) (m : M) (k : Nat), vs = [.ref p, .int k] ∧ Is C H p m ∧ Good m ∧ ∀ (H' : Hp) (a : Addr), Same H H' → Pairs H' a (g m k) → Q (.ref a) H'
theorem scTF : FnScope ["web", "lane", "on", "begin", "end"] ["web", "lane"] (defScope (top 21)) := ⟨rfl, rfl, rfl, by decide +kernel, rfl, by decide +kernel, by decide +kernel⟩
theorem dec_nat {a b : Nat} : decide (V.int (a : Int) = V.int (b : Int)) = (a == b) := by
  rw [dec_int, Bool.eq_iff_iff, beq_iff_eq, beq_iff_eq]
  omega
/-- the list that a comprehension over a locked dict has built behind some turns -/
structure Built {α : Type} (H1 : Hp) (D : Addr) (fs : List (Nat × α × Addr)) (c : α → Bool) (v : α → Nat × Nat) (i : Nat) (H' : Hp) (rs : List (Addr × (Nat × Nat))) : Prop where
  eq : rs.map (·.2) = ((fs.take i).filter fun q => c q.2.1).map fun q => v q.2.1
  le : rs.length ≤ i
  at_ : H' D = some (.lst (rs.map fun r => V.ref r.1))
  tup : ∀ r ∈ rs, H' r.1 = some (.tup [.int r.2.1, .int r.2.2])
  same : Same H1 H'
section
variable {α : Type} {H1 H' : Hp} {D t : Addr} {fs : List (Nat × α × Addr)} {c : α → Bool} {v : α → Nat × Nat} {i : Nat} {rs : List (Addr × (Nat × Nat))} {q : Nat × α × Addr}
theorem Built.zero (hD : H1 D = none) : Built H1 D fs c v 0 (upd H1 D (.lst [])) [] := ⟨rfl, Nat.le_refl 0, upd_same, (fun r hr => by cases hr), same_new hD⟩
theorem Built.skip (B : Built H1 D fs c v i H' rs) (hq : fs[i]? = some q) (hc : c q.2.1 = false) : Built H1 D fs c v (i + 1) H' rs := by
  refine ⟨?_, Nat.le_succ_of_le B.le, B.at_, B.tup, B.same⟩
  rw [B.eq, take_snoc hq, List.filter_append, List.filter_cons, if_neg (by rw [hc]; exact Bool.false_ne_true), List.filter_nil, List.append_nil]
theorem Built.add (B : Built H1 D fs c v i H' rs) (hD : H1 D = none) (hq : fs[i]? = some q) (hc : c q.2.1 = true) (ht : H' t = none) : Built H1 D fs c v (i + 1) (upd (upd H' t (.tup [.int (v q.2.1).1, .int (v q.2.1).2])) D (.lst (rs.map (fun r => V.ref r.1) ++ [.ref t]))) (rs ++ [(t, v q.2.1)]) := by
  have n1 : D ≠ t := ne_of_none B.at_ ht
  refine ⟨?_, ?_, ?_, fun r hr => ?_, ?_⟩
  · rw [List.map_append, B.eq, take_snoc hq, List.filter_append, List.filter_cons, if_pos hc, List.filter_nil, List.map_append]; rfl
  · rw [List.length_append]; have := B.le; simp; exact this
  · rw [upd_same, List.map_append]; rfl
  · rcases List.mem_append.mp hr with hr | hr
    · have z := B.tup r hr
      rw [upd_ne (ne_of z B.at_ (by intro q; cases q)), upd_ne (ne_of_none z ht)]
      exact z
    · have e : r = (t, v q.2.1) := by simpa using hr
      subst e
      rw [upd_ne n1.symm]
      exact upd_same
  · exact same_upd (same_upd B.same (B.same.free ht)) hD
theorem Built.done (B : Built H1 D fs c v fs.length H' rs) {H : Hp} {d : Addr} {od : Obj} {kvs : List (Key × V)} (e1 : H1 = upd H d (.frz od (.dK kvs))) (hd : H d = some (.dK kvs)) (hD : H1 D = none) {l : List (Nat × Nat)} (hl : l = (fs.filter fun q => c q.2.1).map fun q => v q.2.1) :
    H' d = some (.frz od (.dK kvs)) ∧ Same H (upd H' d (.dK kvs)) ∧ Pairs (upd H' d (.dK kvs)) D l := by
  have h1 : H1 d = some (.frz od (.dK kvs)) := by rw [e1]; exact upd_same
  have h2 := B.same _ _ h1
  refine ⟨h2, fun b o hb => ?_, rs, ?_, ?_, fun r hr => ?_⟩
  · by_cases e : b = d
    · subst e
      rw [upd_same, ← hd, hb]
    · rw [upd_ne e]
      exact B.same _ _ (by rw [e1, upd_ne e]; exact hb)
  · rw [hl, B.eq, List.take_length]
  · rw [upd_ne (ne_of B.at_ h2 (by intro z; cases z))]
    exact B.at_
  · have z := B.tup r hr
    rw [upd_ne (ne_of z h2 (by intro z; cases z))]
    exact z
end
theorem fs_filter {α : Type} {tri : α → List V} {H : Hp} {d : Addr} {l : List (Nat × α)} {fs : List (Nat × α × Addr)} (h : DAt tri H d l fs) (c : α → Bool) (v : α → Nat × Nat) : ((l.filter fun q => c q.2).map fun q => v q.2) = (fs.filter fun q => c q.2.1).map fun q => v q.2.1 := by
  rw [h.eq, List.filter_map, List.map_map]; rfl
theorem ok_takenF (F : Fun K "taken_by_faults" "taken_by_faults" (top 21) f fd) (T : Txt K mg C) : FnOk P w K mg base CX0 1 f fd ["web", "lane"] (spPairs C takenF) := by
  refine F.ok scTF (fun vs H Q E h => ?_) (fun cdv A outer s H vs Q E hr h => ?_)
  · obtain ⟨p, m, k, rfl, _⟩ := h
    rfl
  · obtain ⟨p, m, k, rfl, ⟨dx, tl, tw, df, ds, W⟩, G, k'⟩ := h
    have nd := scTF.nd
    refine ⟨_, (pss_one (ps_ret (pe_lock (pe_lc (own := [("on", 2), ("begin", 3), ("end", 4)]) (g := gTup K 3 (gCons (gName 2) (gCons (gName 3) (gCons (gName 4) gNil)))) (te := tTup (tCons (tVar 3) (tCons (tVar 4) tNil))) rfl nd (pi_values (pe_fld (pv 0) rfl)) (blkOk_by (by rfl)) (fun _ _ _ _ _ => (pg_tup rfl (pgs_cons (pg_name (i := 2) nd rfl (Or.inl rfl)) (pgs_cons (pg_name (i := 3) nd rfl (Or.inl rfl)) (pgs_cons (pg_name (i := 4) nd rfl (Or.inl rfl)) pgs_nil))))) (fun _ _ _ _ _ => (pts_one (pt_cmpR op_eq (pv 2) (pv 1) (nomark _)))) (fun _ _ _ _ _ => (pe_tup (pa_cons (pv 3) (pa_cons (pv 4) pa_nil)))))))), ?_⟩
    obtain ⟨fs, hF⟩ := W.fau
    refine ⟨df, .dK (kvsOf fs), hF.at_, trivial, fun od => ?_⟩
    generalize e1 : upd H df (.frz od (.dK (kvsOf fs))) = H1
    have nd1 : ∀ b o, H b = some o → b ≠ df → H1 b = some o := fun b o hb hn => by rw [← e1, upd_ne hn]; exact hb
    have hd1 : H1 df = some (.frz od (.dK (kvsOf fs))) := by rw [← e1]; exact upd_same
    refine ⟨_, rfl, p, C, dx, _, _, rfl, nd1 p _ W.obj (ne_of W.obj hF.at_ (by intro z; cases z)), T.cl, T.nfaults, rfl, df, od, _, rfl, hd1, fun D hD => ?_⟩
    have hlen : fs.length ≤ 8 := by
      have := G.f8
      rw [hF.eq, List.length_map] at this
      exact this
    refine lc_vals (fun i H' => ∃ rs, Built H1 D fs (fun p => p.lane == k) (fun p => (p.from_, p.to)) i H' rs) ⟨[], Built.zero hD⟩ (fun i H' _ ⟨rs, B⟩ => B.same _ _ hd1) ?_ ?_
    · rintro i ky x H' hx ⟨rs, B⟩
      obtain ⟨q, hq, rfl⟩ := kvs_at hx
      have hqt := hF.tup q (mem_of_at hq)
      have hqt2 := B.same _ _ (nd1 _ _ hqt (ne_of hqt hF.at_ (by intro z; cases z)))
      have hlt := lt_of_at hq
      refine ⟨_, _, rfl, SqT.of hqt2, rfl, _, _, rfl, _, _, rfl, _, _, rfl, rfl, rfl, _, rfl, _, rfl, rfl, _, rfl, ?_⟩
      rw [dec_nat]
      refine ite2 (fun hc => ?_) (fun hc => ?_)
      · refine ⟨_, rfl, _, rfl, (by show 2 ≤ sizeLine; decide), fun t ht => ?_⟩
        refine ⟨rs.map (fun r => V.ref r.1), ?_, ?_, _, B.add hD hq hc ht⟩
        · rw [upd_ne (ne_of_none B.at_ ht)]
          exact B.at_
        · rw [List.length_map]
          exact small1000 (by have := B.le; omega)
      · exact ⟨rs, B.skip hq (by simpa using hc)⟩
    · rintro H' ⟨rs, B⟩
      rw [show (kvsOf fs).length = fs.length from List.length_map ..] at B
      have z := B.done e1.symm hF.at_ hD (l := takenF m k) (fs_filter hF (fun p => p.lane == k) (fun p => (p.from_, p.to)))
      exact ⟨z.1, k' _ _ z.2.1 z.2.2⟩
theorem scTS : FnScope ["web", "lane", "on", "begin", "size"] ["web", "lane"] (defScope (top 22)) := ⟨rfl, rfl, rfl, by decide +kernel, rfl, by decide +kernel, by decide +kernel⟩
theorem ok_takenS (F : Fun K "taken_by_sheets" "taken_by_sheets" (top 22) f fd) (T : Txt K mg C) : FnOk P w K mg base CX0 1 f fd ["web", "lane"] (spPairs C takenS) := by
  refine F.ok scTS (fun vs H Q E h => ?_) (fun cdv A outer s H vs Q E hr h => ?_)
  · obtain ⟨p, m, k, rfl, _⟩ := h
    rfl
  · obtain ⟨p, m, k, rfl, ⟨dx, tl, tw, df, ds, W⟩, G, k'⟩ := h
    have nd := scTS.nd
    refine ⟨_, (pss_one (ps_ret (pe_lock (pe_lc (own := [("on", 2), ("begin", 3), ("size", 4)]) (g := gTup K 3 (gCons (gName 2) (gCons (gName 3) (gCons (gName 4) gNil)))) (te := tTup (tCons (tVar 3) (tCons (tOp (rI0 fun i j => .int (i + j)) (tVar 3) (tOp (rIxT K) (tFld K (tVar 0) "lengths") (tVar 4))) tNil))) rfl nd (pi_values (pe_fld (pv 0) rfl)) (blkOk_by (by rfl)) (fun _ _ _ _ _ => (pg_tup rfl (pgs_cons (pg_name (i := 2) nd rfl (Or.inl rfl)) (pgs_cons (pg_name (i := 3) nd rfl (Or.inl rfl)) (pgs_cons (pg_name (i := 4) nd rfl (Or.inl rfl)) pgs_nil))))) (fun _ _ _ _ _ => (pts_one (pt_cmpR op_eq (pv 2) (pv 1) (nomark _)))) (fun _ _ _ _ _ => (pe_tup (pa_cons (pv 3) (pa_cons (pe_op op_add (pv 3) (pe_ix ix_tup (pe_fld (pv 0) rfl) (pv 4) (fun _ _ => rfl))) pa_nil)))))))), ?_⟩
    obtain ⟨fs, hF⟩ := W.she
    refine ⟨ds, .dK (kvsOf fs), hF.at_, trivial, fun od => ?_⟩
    generalize e1 : upd H ds (.frz od (.dK (kvsOf fs))) = H1
    have nd1 : ∀ b o, H b = some o → b ≠ ds → H1 b = some o := fun b o hb hn => by rw [← e1, upd_ne hn]; exact hb
    have hd1 : H1 ds = some (.frz od (.dK (kvsOf fs))) := by rw [← e1]; exact upd_same
    have hp1 := nd1 p _ W.obj (ne_of W.obj hF.at_ (by intro z; cases z))
    have hl1 := nd1 tl _ W.len (ne_of W.len hF.at_ (by intro z; cases z))
    refine ⟨_, rfl, p, C, dx, _, _, rfl, hp1, T.cl, T.nsheets, rfl, ds, od, _, rfl, hd1, fun D hD => ?_⟩
    have hlen : fs.length ≤ 30 := by
      have := G.s30
      rw [hF.eq, List.length_map] at this
      exact this
    refine lc_vals (fun i H' => ∃ rs, Built H1 D fs (fun p => p.lane == k) (fun p => (p.from_, p.from_ + m.size p.size)) i H' rs) ⟨[], Built.zero hD⟩ (fun i H' _ ⟨rs, B⟩ => B.same _ _ hd1) ?_ ?_
    · rintro i ky x H' hx ⟨rs, B⟩
      obtain ⟨q, hq, rfl⟩ := kvs_at hx
      have hqt := hF.tup q (mem_of_at hq)
      have hqt2 := B.same _ _ (nd1 _ _ hqt (ne_of hqt hF.at_ (by intro z; cases z)))
      have hlt := lt_of_at hq
      have hz : q.2.1.size ≤ 1 := (G.sl (q.1, q.2.1) (by rw [hF.eq]; exact List.mem_map.mpr ⟨q, mem_of_at hq, rfl⟩)).2.1
      refine ⟨_, _, rfl, SqT.of hqt2, rfl, _, _, rfl, _, _, rfl, _, _, rfl, rfl, rfl, _, rfl, _, rfl, rfl, _, rfl, ?_⟩
      rw [dec_nat]
      refine ite2 (fun hc => ?_) (fun hc => ?_)
      · refine ⟨_, rfl, _, rfl, _, rfl, p, C, dx, _, _, rfl, B.same _ _ hp1, T.cl, T.nlengths, rfl, _, rfl, tl, _, _, _, rfl, rfl, SqT.of (B.same _ _ hl1), at2 hz, _, _, rfl, rfl, (by show 2 ≤ sizeLine; decide), fun t ht => ?_⟩
        refine ⟨rs.map (fun r => V.ref r.1), ?_, ?_, rs ++ [(t, (q.2.1.from_, q.2.1.from_ + m.size q.2.1.size))], ?_⟩
        · rw [upd_ne (ne_of_none B.at_ ht)]
          exact B.at_
        · rw [List.length_map]
          exact small1000 (by have := B.le; omega)
        · exact B.add hD hq hc ht
      · exact ⟨rs, B.skip hq (by simpa using hc)⟩
    · rintro H' ⟨rs, B⟩
      rw [show (kvsOf fs).length = fs.length from List.length_map ..] at B
      have z := B.done e1.symm hF.at_ hD (l := takenS m k) (fs_filter hF (fun p => p.lane == k) (fun p => (p.from_, p.from_ + m.size p.size)))
      exact ⟨z.1, k' _ _ z.2.1 z.2.2⟩
end
end Fw

end

section
set_option Elab.async false
set_option linter.all false
set_option maxRecDepth 100000
set_option maxHeartbeats 4000000
namespace Fw
open PySem PySem.Spec PyProof.Rows L2
open Kqb1 (Piece Sheet Web)
open Fc (M Rel Good)

section
variable {P : Program} {w : World} {K : PySem.W.Frag} {mg : Str → Option Value} {base : Heap} {C f : Addr} {fd : FuncData}
/-! ### sheet_lies_in -/
def over (b e : Nat) (q : Nat × Nat) : Bool := decide (q.1 < e) && decide (b < q.2)
def spLies (C : Addr) : Sp := fun vs H Q _ => ∃ (p : Addr) (m : M) (k b e : Nat), vs = [.ref p, .int k, .int b, .int e] ∧ Is C H p m ∧ Good m ∧ ∀ H' : Hp, Same H H' → Q (.bl ((takenS m k).any (over b e))) H'
abbrev pLies : List Str := ["web", "lane", "begin", "end"]
theorem scLies : FnScope ["web", "lane", "begin", "end", "sheet_begin", "sheet_end"] pLies (defScope (top 23)) := ⟨rfl, rfl, rfl, by decide +kernel, rfl, by decide +kernel, by decide +kernel⟩
theorem ok_lies (F : Fun K "sheet_lies_in" "sheet_lies_in" (top 23) f fd) (T : Txt K mg C) (G1 : Callee P w K mg base "taken_by_sheets" 1 ["web", "lane"] (spPairs C takenS)) : FnOk P w K mg base CX0 2 f fd pLies (spLies C) := by
  refine F.ok scLies (fun vs H Q E h => ?_) (fun cdv A outer s H vs Q E hr h => ?_)
  · obtain ⟨p, m, k, b, e, rfl, _⟩ := h
    rfl
  · obtain ⟨p, m, k, b, e, rfl, hW, G, k'⟩ := h
    have nd := scLies.nd
    refine ⟨_, (pss_cons (ps_for PassesOwn.never rfl (pi_list (pe_fn G1 hr (pa_cons (pv 0) (pa_cons (pv 1) pa_nil)))) (pg_tup rfl (pgs_cons (pg_name (i := 4) nd rfl (Or.inl rfl)) (pgs_cons (pg_name (i := 5) nd rfl (Or.inl rfl)) pgs_nil)))
      (pss_one (ps_if (PW.pt (pw_and (pt_cmpR op_lt (pv 4) (pv 3) (nomark _)) (pw_and1 (pt_cmpR op_lt (pv 2) (pv 5) (nomark _)))))
        (pss_one (ps_ret pe_bl))
        pss_nil)))
      (pss_one (ps_ret pe_bl))), ?_⟩
    refine ⟨_, rfl, _, rfl, p, m, k, rfl, hW, G, fun H1 a sm ⟨rs, hp⟩ => ?_⟩
    refine ⟨a, rfl, ⟨_, SqL.of hp.at_⟩, for_list (K := K) (a := a) (xs := rs.map fun r => V.ref r.1) (fun i σ H' => (∃ v4 v5, σ = [some (.ref p), some (.int k), some (.int b), some (.int e), v4, v5]) ∧ H' = H1 ∧ ((rs.take i).map (·.2)).any (over b e) = false)
      ⟨⟨none, none, rfl⟩, rfl, rfl⟩ (fun i σ H' _ ⟨_, e1, _⟩ => by rw [e1]; exact SqL.of hp.at_) ?_ ?_⟩
    · rintro i x σ H' hx ⟨⟨v4, v5, rfl⟩, rfl, hn⟩
      obtain ⟨r, hr1, rfl⟩ := map_at hx
      refine ⟨_, _, rfl, SqT.of (hp.tup r (mem_of_at hr1)), rfl, _, _, rfl, _, _, rfl, rfl, ?_⟩
      refine Det.ifs (Det.and (b := decide (r.2.1 < e)) (c := decide (b < r.2.2)) (fun Q q => ⟨_, rfl, _, rfl, _, _, rfl, rfl, _, rfl, ?_⟩) (fun Q q => ⟨_, rfl, _, rfl, _, _, rfl, rfl, _, rfl, ?_⟩)) (fun h1 => ?_) (fun h1 => ?_)
      · simpa using q
      · simpa using q
      · have : (takenS m k).any (over b e) = true := by
          rw [hp.eq, List.any_eq_true]
          exact ⟨r.2, List.mem_map.mpr ⟨r, mem_of_at hr1, rfl⟩, h1⟩
        rw [this] at k'
        exact k' _ sm
      · refine ⟨⟨_, _, rfl⟩, rfl, ?_⟩
        rw [take_snoc hr1, List.map_append, List.any_append, hn]
        show (false || (over b e r.2 || false)) = false
        rw [show over b e r.2 = false from h1]
        rfl
    · rintro σ H' ⟨_, rfl, hn⟩
      rw [List.length_map, List.take_length, ← hp.eq] at hn
      rw [hn] at k'
      exact k' _ sm
end
end Fw

end

section
set_option Elab.async false
set_option linter.all false
set_option maxRecDepth 100000
set_option maxHeartbeats 4000000
namespace Fw
open PySem PySem.Spec PyProof.Rows L2
open Kqb1 (Piece Sheet Web)
open Fc (M Rel Good)

/-! ### rows of truth values by their places -/
def bools (n : Nat) (F : Nat → Bool) : List V := (List.range n).map fun i => V.bl (F i)
theorem bools_len (n : Nat) (F : Nat → Bool) : (bools n F).length = n := by simp [bools]
theorem bools_set (n : Nat) (F : Nat → Bool) (j : Nat) (b : Bool) : (bools n F).set j (.bl b) = bools n (fun i => if i = j then b else F i) := by
  unfold bools
  apply List.ext_getElem?
  intro i
  rw [List.getElem?_set, List.getElem?_map, List.getElem?_map, List.length_map, List.length_range]
  by_cases hi : i < n
  · rw [List.getElem?_range hi]
    by_cases e : j = i
    · subst e; simp [hi]
    · rw [if_neg e]
      simp [fun z : i = j => e z.symm]
      intro z; exact absurd z.symm e
  · have h1 : (List.range n)[i]? = none := List.getElem?_eq_none (by simp; omega)
    rw [h1]
    by_cases e : j = i
    · subst e; simp [hi]
    · rw [if_neg e]; rfl
theorem bools_congr {n : Nat} {F G : Nat → Bool} (h : ∀ i, i < n → F i = G i) : bools n F = bools n G := by
  unfold bools
  apply List.map_congr_left
  intro i hi
  rw [h i (List.mem_range.mp hi)]
theorem bools_rep (n : Nat) (b : Bool) : List.replicate n (V.bl b) = bools n fun _ => b := by
  unfold bools
  rw [List.map_const', List.length_range]
theorem bools_at {n i : Nat} {F : Nat → Bool} {x : V} (h : (bools n F)[i]? = some x) : i < n ∧ x = .bl (F i) := by
  obtain ⟨j, hj, rfl⟩ := map_at h
  have hi : i < n := by have := lt_of_at hj; simpa using this
  rw [List.getElem?_range hi] at hj
  cases hj
  exact ⟨hi, rfl⟩
/-- within one of the pieces l -/
def hit (l : List (Nat × Nat)) (i : Nat) : Bool := l.any fun q => decide (q.1 ≤ i) && decide (i < q.2)
theorem hit_faulty (m : M) (k i : Nat) : hit (takenF m k) i = m.faulty k i := by
  unfold hit takenF Fc.M.faulty
  rw [List.any_map, List.any_filter]
  congr 1
  funext q
  simp [Bool.and_assoc]
theorem hit_stamped (m : M) (k i : Nat) : hit (takenS m k) i = m.stamped k i := by
  unfold hit takenS Fc.M.stamped
  rw [List.any_map, List.any_filter]
  congr 1
  funext q
  simp [Bool.and_assoc]
theorem hit_free {m : M} {k i : Nat} (hi : i < m.long) : hit (takenF m k ++ takenS m k) i = !(m.free k i) := by
  have e : hit (takenF m k ++ takenS m k) i = (hit (takenF m k) i || hit (takenS m k) i) := List.any_append
  rw [e, hit_faulty, hit_stamped]
  unfold Fc.M.free
  rw [decide_eq_true hi, Bool.true_and, Bool.not_not]
/-- the pieces lie in the lane -/
theorem takenF_ends {m : M} (G : Good m) {k : Nat} {r : Nat × Nat} (h : r ∈ takenF m k) : r.1 ≤ m.long ∧ r.2 ≤ m.long := by
  unfold takenF at h
  obtain ⟨q, hq, e⟩ := List.mem_map.mp h
  rw [← e]
  have z := G.fl q (List.mem_filter.mp hq).1
  exact ⟨by show q.2.from_ ≤ _; omega, z.2.2⟩
theorem takenS_ends {m : M} (G : Good m) {k : Nat} {r : Nat × Nat} (h : r ∈ takenS m k) : r.1 ≤ m.long ∧ r.2 ≤ m.long := by
  unfold takenS at h
  obtain ⟨q, hq, e⟩ := List.mem_map.mp h
  rw [← e]
  have z := G.sl q (List.mem_filter.mp hq).1
  exact ⟨by show q.2.from_ ≤ _; omega, z.2.2⟩
theorem takenF_len {m : M} (G : Good m) (k : Nat) : (takenF m k).length ≤ 8 := by
  unfold takenF
  rw [List.length_map]
  exact Nat.le_trans (List.length_filter_le _ _) G.f8
theorem takenS_len {m : M} (G : Good m) (k : Nat) : (takenS m k).length ≤ 30 := by
  unfold takenS
  rw [List.length_map]
  exact Nat.le_trans (List.length_filter_le _ _) G.s30
theorem tYes_i {σ : L2.St} {H : Hp} {Q : Bool → Hp → Prop} (h : Q true H) : tYes σ H Q := h
section
variable {H H' : Hp} {a : Addr} {l : List (Nat × Nat)} {rs : List (Addr × (Nat × Nat))}
theorem PAt.len (p : PAt H a l rs) : rs.length = l.length := by rw [p.eq, List.length_map]
theorem PAt.same (p : PAt H a l rs) (s : Same H H') : PAt H' a l rs := ⟨p.eq, s _ _ p.at_, fun r hr => s _ _ (p.tup r hr)⟩
end
section
variable {P : Program} {w : World} {K : PySem.W.Frag} {mg : Str → Option Value} {base : Heap} {C f : Addr} {fd : FuncData}
/-! ### taken_places -/
def spTaken (C : Addr) : Sp := fun vs H Q _ => ∃ (p : Addr) (m : M) (a : Addr) (l : List (Nat × Nat)), vs = [.ref p, .ref a] ∧ Is C H p m ∧ Good m ∧ Pairs H a l ∧ (∀ r ∈ l, r.1 ≤ m.long ∧ r.2 ≤ m.long) ∧ ∀ (H' : Hp) (b : Addr), Same H H' → H' b = some (.lst (bools m.long (hit l))) → Q (.ref b) H'
theorem scTaken : FnScope ["web", "parts", "taken", "place", "begin", "end"] ["web", "parts"] (defScope (top 24)) := ⟨rfl, rfl, rfl, by decide +kernel, rfl, by decide +kernel, by decide +kernel⟩
theorem ok_taken (F : Fun K "taken_places" "taken_places" (top 24) f fd) (T : Txt K mg C) : FnOk P w K mg base CX0 1 f fd ["web", "parts"] (spTaken C) := by
  refine F.ok scTaken (fun vs H Q E h => ?_) (fun cdv A outer s H vs Q E hr h => ?_)
  · obtain ⟨p, m, a, l, rfl, _⟩ := h
    rfl
  · obtain ⟨p, m, a, l, rfl, hW, G, ⟨rs, ps⟩, ends0, k'⟩ := h
    have nd := scTaken.nd
    refine ⟨_, (pss_cons (ps_setLc (i := 2) (own := [("place", 3)]) rfl nd rfl rfl (sw_true rfl rfl rfl rfl) (pi_range1 rfl T.brange (pa_cons (pe_fld (pv 0) rfl) pa_nil)) (blkOk_by (by rfl)) (fun _ _ _ _ _ => (pg_name (i := 3) nd rfl (Or.inl rfl))) (fun _ _ _ _ _ => pts_nil) (fun _ _ _ _ _ => pe_bl))
      (pss_cons (ps_for PassesOwn.never rfl (pi_list (pv 1)) (pg_tup rfl (pgs_cons (pg_name (i := 4) nd rfl (Or.inl rfl)) (pgs_cons (pg_name (i := 5) nd rfl (Or.inl rfl)) pgs_nil)))
      (pss_one (ps_for PassesOwn.never rfl (pi_range2 rfl T.brange (pa_cons (pv 4) (pa_cons (pv 5) pa_nil))) (pg_name (i := 3) nd rfl (Or.inl rfl))
        (pss_one (ps_asg pe_bl (pg_sub (pv 2) (pv 3) set_list))))))
      (pss_one (ps_ret (pv 2))))), ?_⟩
    have h80 := G.n80
    obtain ⟨dx, tl, tw, df, ds, W⟩ := hW
    refine ⟨_, rfl, p, C, dx, _, _, rfl, W.obj, T.cl, T.nlong, rfl, _, rfl, by omega, by omega, fun fr hfr => ?_⟩
    refine lc_range (lo := 0) (n := ((m.long : Nat) : Int).toNat) (fun i H' => H' fr = some (.lst (List.replicate i (V.bl false))) ∧ Same H H') ⟨upd_same, same_new hfr⟩ ?_ ?_
    · rintro i H' hi ⟨h1, h2⟩
      refine ⟨rfl, tYes_i ?_⟩
      refine iteT ?_
      refine ⟨_, h1, ?_, ?_, ?_⟩
      · rw [List.length_replicate]
        exact small1000 (by omega)
      · rw [upd_same, List.replicate_succ']
      · exact same_upd h2 hfr
    · rintro H1 ⟨h1, h2⟩
      rw [Int.toNat_natCast, bools_rep] at h1
      have ps1 := ps.same h2
      have nca : a ≠ fr := ne_of_none ps.at_ hfr
      have ends : ∀ r ∈ rs, r.2.1 ≤ m.long ∧ r.2.2 ≤ m.long := fun r hr => ends0 r.2 (by rw [ps.eq]; exact List.mem_map.mpr ⟨r, hr, rfl⟩)
      refine ⟨_, rfl, a, rfl, ⟨_, SqL.of ps1.at_⟩, for_list (K := K) (a := a) (xs := rs.map fun r => V.ref r.1) (fun j σ H' => (∃ v3 v4 v5, σ = [some (.ref p), some (.ref a), some (.ref fr), v3, v4, v5]) ∧
        H' fr = some (.lst (bools m.long (hit ((rs.take j).map (·.2))))) ∧ ∀ b o, H1 b = some o → b ≠ fr → H' b = some o)
        ⟨⟨none, none, none, rfl⟩, h1, fun b o e _ => e⟩ (fun j σ H' _ ⟨_, _, h⟩ => SqL.of (h _ _ ps1.at_ nca)) ?_ ?_⟩
      · rintro j x σ H' hx ⟨⟨v3, v4, v5, rfl⟩, hb, hk⟩
        obtain ⟨r, hr1, rfl⟩ := map_at hx
        have hm := mem_of_at hr1
        have ht := hk _ _ (ps1.tup r hm) (ne_of (ps1.tup r hm) h1 (by intro z; cases z))
        obtain ⟨he0, he⟩ := ends r hm
        refine ⟨_, _, rfl, SqT.of ht, rfl, _, _, rfl, _, _, rfl, rfl, ?_⟩
        refine ⟨_, rfl, _, rfl, _, _, rfl, ⟨by omega, by omega, by omega, by omega⟩, for_range (lo := (r.2.1 : Int)) (n := ((r.2.2 : Int) - (r.2.1 : Int)).toNat) (fun t σ H' => (∃ v3, σ = [some (.ref p), some (.ref a), some (.ref fr), v3, some (.int r.2.1), some (.int r.2.2)]) ∧
          H' fr = some (.lst (bools m.long fun i => hit ((rs.take j).map (·.2)) i || (decide (r.2.1 ≤ i) && decide (i < r.2.1 + t)))) ∧ ∀ b o, H1 b = some o → b ≠ fr → H' b = some o)
          ⟨⟨v3, rfl⟩, ?_, hk⟩ ?_ ?_⟩
        · rw [hb]
          congr 2
          apply bools_congr
          intro i hi
          have : (decide (r.2.1 ≤ i) && decide (i < r.2.1 + 0)) = false := by
            simp
          rw [this]
          simp
        · rintro t σ H'' ht ⟨⟨v3, rfl⟩, hb2, hk2⟩
          refine ⟨_, rfl, _, rfl, fr, _, _, r.2.1 + t, rfl, rfl, hb2, ?_, ⟨_, rfl⟩, ?_, fun b o e n => by rw [upd_ne n]; exact hk2 b o e n⟩
          · unfold ixN
            rw [bools_len, if_pos (by omega), if_pos (by omega)]
            congr 1
          · rw [upd_same, bools_set]
            congr 2
            apply bools_congr
            intro i hi
            by_cases e : i = r.2.1 + t
            · subst e
              rw [if_pos rfl]
              simp
            · rw [if_neg e]
              congr 2
              have : decide (i < r.2.1 + t) = decide (i < r.2.1 + (t + 1)) := by
                apply decide_eq_decide.mpr
                omega
              rw [this]
        · rintro σ H'' ⟨⟨v3, rfl⟩, hb2, hk2⟩
          refine ⟨⟨_, _, _, rfl⟩, ?_, hk2⟩
          rw [hb2]
          congr 2
          apply bools_congr
          intro i hi
          unfold hit
          rw [take_snoc hr1, List.map_append, List.any_append]
          congr 1
          have : decide (i < r.2.1 + ((r.2.2 : Int) - (r.2.1 : Int)).toNat) = decide (i < r.2.2) ∨ r.2.2 ≤ r.2.1 := by
            by_cases z : r.2.2 ≤ r.2.1
            · exact .inr z
            · left
              apply decide_eq_decide.mpr
              omega
          rcases this with z | z
          · rw [z]
            simp
          · have e1 : (decide (r.2.1 ≤ i) && decide (i < r.2.1 + ((r.2.2 : Int) - (r.2.1 : Int)).toNat)) = false := by
              simp
              omega
            have e2 : (decide (r.2.1 ≤ i) && decide (i < r.2.2)) = false := by
              simp
              omega
            rw [e1]
            simp [e2]
      · rintro σ H' ⟨⟨v3, v4, v5, rfl⟩, hb, hk⟩
        rw [List.length_map, List.take_length, ← ps.eq] at hb
        exact ⟨_, rfl, k' _ fr (fun b o e => hk _ _ (h2 _ _ e) (ne_of_none e hfr)) hb⟩
end
end Fw

end

section
set_option Elab.async false
set_option linter.all false
set_option maxRecDepth 100000
set_option maxHeartbeats 4000000
namespace Fw
open PySem PySem.Spec PyProof.Rows L2
open Kqb1 (Piece Sheet Web)
open Fc (M Rel Good)

section
variable {H H' : Hp} {a t : Addr} {l : List (Nat × Nat)} {x y : Nat}
/-- a pair is appended to a list of pairs -/
theorem Pairs.snoc {rs : List (Addr × (Nat × Nat))} (p : PAt H a l rs) (ht : H t = none) : PAt (upd (upd H t (.tup [.int x, .int y])) a (.lst (rs.map (fun r => V.ref r.1) ++ [.ref t]))) a (l ++ [(x, y)]) (rs ++ [(t, (x, y))]) := by
  have n1 : a ≠ t := ne_of_none p.at_ ht
  refine ⟨by rw [p.eq, List.map_append]; rfl, by rw [upd_same, List.map_append]; rfl, fun r hr => ?_⟩
  rcases List.mem_append.mp hr with hr | hr
  · have z := p.tup r hr
    rw [upd_ne (ne_of z p.at_ (by intro q; cases q)), upd_ne (ne_of_none z ht)]
    exact z
  · have e : r = (t, (x, y)) := by simpa using hr
    subst e
    rw [upd_ne n1.symm]
    exact upd_same
end
section
variable {P : Program} {w : World} {K : PySem.W.Frag} {mg : Str → Option Value} {base : Heap} {C f : Addr} {fd : FuncData}
/-! ### stretches_of -/
theorem scStr : FnScope ["web", "lane", "found", "begin", "taken", "place", "is_taken"] ["web", "lane"] (defScope (top 25)) := ⟨rfl, rfl, rfl, by decide +kernel, rfl, by decide +kernel, by decide +kernel⟩
theorem ok_str (F : Fun K "stretches_of" "stretches_of" (top 25) f fd) (T : Txt K mg C) (G0 : Callee P w K mg base "taken_places" 1 ["web", "parts"] (spTaken C)) (G1 : Callee P w K mg base "taken_by_faults" 1 ["web", "lane"] (spPairs C takenF)) (G2 : Callee P w K mg base "taken_by_sheets" 1 ["web", "lane"] (spPairs C takenS)) : FnOk P w K mg base CX0 3 f fd ["web", "lane"] (spPairs C M.stretches) := by
  refine F.ok scStr (fun vs H Q E h => ?_) (fun cdv A outer s H vs Q E hr h => ?_)
  · obtain ⟨p, m, k, rfl, _⟩ := h
    rfl
  · obtain ⟨p, m, k, rfl, hW, G, k'⟩ := h
    have nd := scStr.nd
    refine ⟨_, (pss_cons (ps_set (i := 2) nd rfl (Or.inl rfl) (pe_lst pa_nil))
      (pss_cons (ps_set (i := 3) nd rfl (Or.inl rfl) pe_int)
      (pss_cons (ps_set (i := 4) nd rfl (Or.inl rfl) (pe_fn G0 (hr.mono (by decide)) (pa_cons (pv 0) (pa_cons (pe_op op_cat (pe_fn G1 (hr.mono (by decide)) (pa_cons (pv 0) (pa_cons (pv 1) pa_nil))) (pe_fn G2 (hr.mono (by decide)) (pa_cons (pv 0) (pa_cons (pv 1) pa_nil)))) pa_nil))))
      (pss_cons (ps_for PassesOwn.never rfl (pi_enum rfl T.benumerate (pa_cons (pe_op op_cat (pv 4) (pe_lst (pa_cons pe_bl pa_nil))) pa_nil)) (pg_tup rfl (pgs_cons (pg_name (i := 5) nd rfl (Or.inl rfl)) (pgs_cons (pg_name (i := 6) nd rfl (Or.inl rfl)) pgs_nil)))
      (pss_one (ps_if (pt_val (pv 6))
        (pss_cons (ps_if (pt_cmpR op_lt (pv 3) (pv 5) (nomark _))
          (pss_one (ps_expr (pe_bm PySem.F.plainAttrs_list PySem.F.slot_list_append PySem.F.type_list_append mt_append (pv 2) (pa_cons (pe_tup (pa_cons (pv 3) (pa_cons (pv 5) pa_nil))) pa_nil))))
          pss_nil)
          (pss_one (ps_set (i := 3) nd rfl (Or.inl rfl) (pe_op op_add (pv 5) pe_int))))
        pss_nil)))
      (pss_one (ps_ret (pv 2))))))), ?_⟩
    refine ⟨Nat.zero_le _, fun fo hfo => ?_⟩
    have s1 : Same H (upd H fo (.lst [])) := same_new hfo
    have h80 := G.n80
    have hfoA : (upd H fo (.lst [])) fo = some (.lst []) := upd_same
    have W1 := hW.same s1
    generalize upd H fo (.lst []) = HA at s1 hfoA W1
    refine ⟨_, rfl, _, rfl, _, rfl, p, m, k, rfl, W1, G, fun HB a1 sB ⟨rs1, p1⟩ => ?_⟩
    refine ⟨_, rfl, _, rfl, p, m, k, rfl, W1.same sB, G, fun HC a2 sC ⟨rs2, p2⟩ => ?_⟩
    have p1' := p1.same sC
    have b1 : rs1.length ≤ 8 := by rw [p1.len]; exact takenF_len G k
    have b2 : rs2.length ≤ 30 := by rw [p2.len]; exact takenS_len G k
    refine ⟨a1, a2, _, _, rfl, rfl, p1'.at_, p2.at_, ?_, fun c0 hc0 => ?_⟩
    · rw [List.length_map, List.length_map]
      exact Nat.le_of_lt (small1000 (by omega))
    have sD : Same HC (upd HC c0 (.lst (rs1.map (fun r => V.ref r.1) ++ rs2.map fun r => V.ref r.1))) := same_new hc0
    have hcD : (upd HC c0 (.lst (rs1.map (fun r => V.ref r.1) ++ rs2.map fun r => V.ref r.1))) c0 = some (.lst (rs1.map (fun r => V.ref r.1) ++ rs2.map fun r => V.ref r.1)) := upd_same
    generalize upd HC c0 (.lst (rs1.map (fun r => V.ref r.1) ++ rs2.map fun r => V.ref r.1)) = HD at sD hcD
    have pD : Pairs HD c0 (takenF m k ++ takenS m k) := by
      refine ⟨rs1 ++ rs2, by rw [p1.eq, p2.eq, List.map_append], by rw [hcD, List.map_append], fun r hr => ?_⟩
      rcases List.mem_append.mp hr with z | z
      · exact sD _ _ (p1'.tup r z)
      · exact sD _ _ (p2.tup r z)
    have sAD : Same HA HD := (sB.trans sC).trans sD
    refine ⟨p, m, c0, _, rfl, W1.same sAD, G, pD, fun r hr => ?_, fun H2 fr s2' hfr => ?_⟩
    · rcases List.mem_append.mp hr with z | z
      · exact takenF_ends G z
      · exact takenS_ends G z
    have s2 : Same HA H2 := sAD.trans s2'
    have efr : bools m.long (hit (takenF m k ++ takenS m k)) = bools m.long (fun i => !(m.free k i)) := bools_congr fun i hi => hit_free hi
    rw [efr] at hfr
    refine ⟨_, rfl, (by show 1 ≤ sizeLine; decide), fun l1 hl1 => ?_⟩
    have s3 : Same H2 (upd H2 l1 (.lst [.bl true])) := same_new hl1
    refine ⟨fr, l1, _, _, rfl, rfl, s3 _ _ hfr, upd_same, ?_, fun c hc => ?_⟩
    · rw [bools_len]
      exact Nat.le_of_lt (small1000 (by show m.long + 1 ≤ 1000; omega))
    have hfo3 : (upd H2 l1 (.lst [.bl true])) fo = some (.lst []) := s3 _ _ (s2 _ _ hfoA)
    have ef : bools m.long (fun i => !(m.free k i)) ++ [V.bl true] = bools (m.long + 1) (fun i => !(m.free k i)) := by
      unfold bools
      rw [List.range_succ, List.map_append]
      show _ = _ ++ [V.bl (!(m.free k m.long))]
      rw [Fc.M.free_long]
      rfl
    rw [ef]
    have s4 : Same (upd H2 l1 (.lst [.bl true])) (upd (upd H2 l1 (.lst [.bl true])) c (.lst (bools (m.long + 1) (fun i => !(m.free k i))))) := same_new hc
    have hc4 : (upd (upd H2 l1 (.lst [.bl true])) c (.lst (bools (m.long + 1) (fun i => !(m.free k i))))) c = some (.lst (bools (m.long + 1) (fun i => !(m.free k i)))) := upd_same
    have ncf : c ≠ fo := (ne_of_none hfo3 hc).symm
    have sH : ∀ b o, H b = some o → (upd (upd H2 l1 (.lst [.bl true])) c (.lst (bools (m.long + 1) (fun i => !(m.free k i))))) b = some o := fun b o e => s4 _ _ (s3 _ _ (s2 _ _ (s1 _ _ e)))
    have hfo4 := s4 _ _ hfo3
    generalize upd (upd H2 l1 (.lst [.bl true])) c (.lst (bools (m.long + 1) (fun i => !(m.free k i)))) = H4 at s4 hc4 sH hfo4
    refine ⟨c, _, rfl, SqL.of hc4, for_enum (K := K) (a := c) (xs := bools (m.long + 1) (fun i => !(m.free k i))) (fun i σ H' => ∃ (b : Nat) (found : List (Nat × Nat)) (rs : List (Addr × (Nat × Nat))) (v4 v5 : Option V),
      σ = [some (.ref p), some (.int k), some (.ref fo), some (.int b), some (.ref fr), v4, v5] ∧ Fc.Scan (m.free k) m.long i b found ∧ PAt H' fo found rs ∧ ∀ q o, H4 q = some o → q ≠ fo → H' q = some o)
      ⟨0, [], [], none, none, rfl, Fc.Scan.zero _ _, ⟨rfl, hfo4, fun r hr => by cases hr⟩, fun q o e _ => e⟩ (fun i σ H' _ ⟨_, _, _, _, _, _, _, _, h⟩ => SqL.of (h _ _ hc4 ncf)) ?_ ?_⟩
    · rintro i x σ H' t hx ⟨b, found, rs, v4, v5, rfl, S, p1, hk⟩ ht
      obtain ⟨hi, rfl⟩ := bools_at hx
      have nt : ∀ q o, H' q = some o → (upd H' t (.tup [.int (i : Nat), .bl (!(m.free k i))])) q = some o := same_new ht
      have p2 : PAt (upd H' t (.tup [.int (i : Nat), .bl (!(m.free k i))])) fo found rs := p1.same nt
      have hk2 : ∀ q o, H4 q = some o → q ≠ fo → (upd H' t (.tup [.int (i : Nat), .bl (!(m.free k i))])) q = some o := fun q o e n => nt _ _ (hk q o e n)
      refine ⟨t, _, rfl, SqT.of upd_same, rfl, _, _, rfl, _, _, rfl, rfl, ?_⟩
      generalize upd H' t (.tup [.int (i : Nat), .bl (!(m.free k i))]) = H5 at p2 hk2
      refine Det.ifs (b := !(m.free k i)) (fun Q q => ⟨_, rfl, _, rfl, q⟩) (fun h1 => ?_) (fun h1 => ?_)
      · have h1 : m.free k i = false := by simpa using h1
        have S2 := S.stop (by omega) h1
        refine Det.seq (b := decide (b < i)) (fun Q q => ⟨_, rfl, _, rfl, _, _, rfl, rfl, _, rfl, by simpa using q⟩) (fun h2 => ?_) (fun h2 => ?_)
        · have h2 : b < i := of_decide_eq_true h2
          rw [if_pos h2] at S2
          refine ⟨_, rfl, .inl ⟨rfl, _, SqL.of p2.at_⟩, _, rfl, _, rfl, (by show 2 ≤ sizeLine; decide), fun u hu => ?_⟩
          refine ⟨fo, _, _, rfl, rfl, (by rw [upd_ne (ne_of_none p2.at_ hu)]; exact p2.at_), ?_, ?_⟩
          · rw [List.length_map, p2.len, S.eq]
            have := Fc.starts_len (m.free k) m.long b
            exact small1000 (by omega)
          · refine ⟨_, rfl, _, _, rfl, rfl, i + 1, _, _, _, _, rfl, S2, Pairs.snoc p2 hu, fun q o e n => ?_⟩
            rw [upd_ne n, upd_ne (ne_of_none (hk2 q o e n) hu)]
            exact hk2 q o e n
        · have h2 : ¬ b < i := of_decide_eq_false h2
          rw [if_neg h2] at S2
          exact ⟨_, rfl, _, _, rfl, rfl, i + 1, _, _, _, _, rfl, S2, p2, hk2⟩
      · have h1 : m.free k i = true := by simpa using h1
        exact ⟨b, found, rs, _, _, rfl, S.go h1, p2, hk2⟩
    · rintro σ H' ⟨b, found, rs, v4, v5, rfl, S, p1, hk⟩
      rw [bools_len] at S
      have ee : found = m.stretches k := S.last (Fc.M.free_long m k)
      subst ee
      refine ⟨_, rfl, k' _ fo (fun q o e => ?_) ⟨rs, p1⟩⟩
      exact hk _ _ (sH _ _ e) (ne_of_none e hfo)
end
end Fw

end

section
set_option Elab.async false
set_option linter.all false
set_option maxRecDepth 100000
set_option maxHeartbeats 4000000
namespace Fw
open PySem PySem.Spec PyProof.Rows L2
open Kqb1 (Piece Sheet Web)
open Fc (M Rel Good)

section
variable {P : Program} {w : World} {K : PySem.W.Frag} {mg : Str → Option Value} {base : Heap} {C f : Addr} {fd : FuncData}
/-! ### best_of -/
def tri3 (q : Nat × Nat × Nat) : List V := [.int q.1, .int q.2.1, .int q.2.2]
def spBest (C : Addr) : Sp := fun vs H Q _ => ∃ (p : Addr) (m : M) (s : Nat), vs = [.ref p, .int s] ∧ Is C H p m ∧ Good m ∧ s ≤ 80 ∧ ∀ (H' : Hp) (a : Addr), Same H H' → H' a = some (.tup (tri3 (m.best s))) → Q (.ref a) H'
theorem scBest : FnScope ["web", "room", "chosen", "shorts", "talls", "value"] ["web", "room"] (defScope (top 26)) := ⟨rfl, rfl, rfl, by decide +kernel, rfl, by decide +kernel, by decide +kernel⟩
theorem ok_best_of (F : Fun K "best_of" "best_of" (top 26) f fd) (T : Txt K mg C) : FnOk P w K mg base CX0 1 f fd ["web", "room"] (spBest C) := by
  refine F.ok scBest (fun vs H Q E h => ?_) (fun cdv A outer s H vs Q E hr h => ?_)
  · obtain ⟨p, m, s, rfl, _⟩ := h
    rfl
  · obtain ⟨p, m, n, rfl, ⟨dx, tl, tw, df, ds, W⟩, G, hn, k'⟩ := h
    have nd := scBest.nd
    refine ⟨_, (pss_cons (ps_set (i := 2) nd rfl (Or.inl rfl) (pe_tup (pa_cons pe_int (pa_cons pe_int (pa_cons pe_int pa_nil)))))
      (pss_cons (ps_for PassesOwn.never rfl (pi_range1 rfl T.brange (pa_cons (pe_op op_add (pe_op op_fdiv (pv 1) (pe_ix ix_tup (pe_fld (pv 0) rfl) (pe_gint T.cSHORT) (fun _ _ => rfl))) pe_int) pa_nil)) (pg_name (i := 3) nd rfl (Or.inl rfl))
      (pss_cons (ps_set (i := 4) nd rfl (Or.inl rfl) (pe_op op_fdiv (pe_op op_sub (pv 1) (pe_op op_mul (pv 3) (pe_ix ix_tup (pe_fld (pv 0) rfl) (pe_gint T.cSHORT) (fun _ _ => rfl)))) (pe_ix ix_tup (pe_fld (pv 0) rfl) (pe_gint T.cTALL) (fun _ _ => rfl))))
        (pss_cons (ps_set (i := 5) nd rfl (Or.inl rfl) (pe_op op_add (pe_op op_mul (pv 3) (pe_ix ix_tup (pe_fld (pv 0) rfl) (pe_gint T.cSHORT) (fun _ _ => rfl))) (pe_op op_mul (pv 4) (pe_ix ix_tup (pe_fld (pv 0) rfl) (pe_gint T.cTALL) (fun _ _ => rfl)))))
        (pss_one (ps_if (pt_cmpR op_ge (pv 5) (pe_ix ix_tup (pv 2) pe_int (fun _ _ => rfl)) (nomark _))
        (pss_one (ps_set (i := 2) nd rfl (Or.inl rfl) (pe_tup (pa_cons (pv 5) (pa_cons (pv 3) (pa_cons (pv 4) pa_nil))))))
        pss_nil)))))
      (pss_one (ps_ret (pv 2))))), ?_⟩
    have g1 := G.s1
    have g2 := G.st
    have g3 := G.t60
    have g4 := G.v0
    have g5 := G.v1
    refine ⟨(by show 3 ≤ sizeLine; decide), fun c0 hc0 => ?_⟩
    have s1 : Same H (upd H c0 (.tup [.int 0, .int 0, .int 0])) := same_new hc0
    have W1 := W.same s1
    have hq : n / m.short ≤ n := Nat.div_le_self _ _
    have e1 : (n : Int) / (m.short : Int) = ((n / m.short : Nat) : Int) := by simp
    have nn : (0 : Int) ≤ (n : Int) / (m.short : Int) := Int.ediv_nonneg (Int.natCast_nonneg _) (Int.natCast_nonneg _)
    refine ⟨_, rfl, _, rfl, p, C, dx, _, _, rfl, W1.obj, T.cl, T.nlengths, rfl, tl, _, _, _, rfl, rfl, SqT.of W1.len, rfl, _, _, rfl, rfl, ⟨by omega, by omega⟩, _, _, rfl, rfl, _, rfl, by rw [e1]; omega, by rw [e1]; omega, ?_⟩
    refine for_range (lo := 0) (n := ((n : Int) / (m.short : Int) + 1).toNat) (fun i σ H' => ∃ (c : Addr) (v3 v4 v5 : Option V), σ = [some (.ref p), some (.int n), some (.ref c), v3, v4, v5] ∧ H' c = some (.tup (tri3 (m.pick n i))) ∧ Same H H')
      ⟨c0, none, none, none, rfl, upd_same, s1⟩ ?_ ?_
    · rintro i σ H' hi ⟨c, v3, v4, v5, rfl, hc, sm⟩
      have W2 := W.same sm
      have hi : i ≤ n / m.short := by rw [e1] at hi; omega
      have hm : i * m.short ≤ n := by
        have h3 := Nat.div_mul_le_self n m.short
        have h4 : i * m.short ≤ n / m.short * m.short := Nat.mul_le_mul_right _ hi
        omega
      have e2 : ((n : Int) - ((0 : Int) + (i : Int)) * (m.short : Int)) / (m.tall : Int) = (((n - i * m.short) / m.tall : Nat) : Int) := by
        rw [Int.zero_add, Int.natCast_ediv, Int.natCast_sub hm, Int.natCast_mul]
      have nn2 : (0 : Int) ≤ ((n - i * m.short : Nat) : Int) / (m.tall : Int) := Int.ediv_nonneg (Int.natCast_nonneg _) (Int.natCast_nonneg _)
      have hd : (n - i * m.short) / m.tall ≤ n := by
        have := Nat.div_le_self (n - i * m.short) m.tall
        omega
      refine ⟨_, rfl, _, rfl, _, rfl, p, C, dx, _, _, rfl, W2.obj, T.cl, T.nlengths, rfl, tl, _, _, _, rfl, rfl, SqT.of W2.len, rfl, _, _, rfl, rfl, .inl ⟨by omega, by omega⟩, _, _, rfl, rfl, _, rfl, p, C, dx, _, _, rfl, W2.obj, T.cl, T.nlengths, rfl, tl, _, _, _, rfl, rfl, SqT.of W2.len, rfl, _, _, rfl, rfl, ⟨by omega, by omega⟩, ?_⟩
      dsimp only
      rw [e2]
      refine ⟨_, rfl, _, rfl, p, C, dx, _, _, rfl, W2.obj, T.cl, T.nworths, rfl, tw, _, _, _, rfl, rfl, SqT.of W2.wor, rfl, _, _, rfl, rfl, .inl ⟨by omega, by omega⟩, _, rfl, _, rfl, p, C, dx, _, _, rfl, W2.obj, T.cl, T.nworths, rfl, tw, _, _, _, rfl, rfl, SqT.of W2.wor, rfl, _, _, rfl, rfl, .inl ⟨by omega, by omega⟩, _, _, rfl, rfl, ?_⟩
      have e3 : ((0 : Int) + (i : Int)) * (m.w0 : Int) + (((n - i * m.short) / m.tall : Nat) : Int) * (m.w1 : Int) = ((i * m.w0 + (n - i * m.short) / m.tall * m.w1 : Nat) : Int) := by
        rw [Int.zero_add, Int.natCast_add, Int.natCast_mul, Int.natCast_mul]
      dsimp only
      rw [e3]
      have hpk : m.pick n (i + 1) = if (m.pick n i).1 ≤ i * m.w0 + (n - i * m.short) / m.tall * m.w1 then (i * m.w0 + (n - i * m.short) / m.tall * m.w1, i, (n - i * m.short) / m.tall) else m.pick n i := rfl
      refine Det.ifs (b := decide ((m.pick n i).1 ≤ i * m.w0 + (n - i * m.short) / m.tall * m.w1)) (fun Q q => ⟨_, rfl, _, rfl, c, _, _, _, rfl, rfl, SqT.of hc, rfl, _, _, rfl, rfl, _, rfl, dq q (by omega)⟩) (fun h1 => ?_) (fun h1 => ?_)
      · have h1 := of_decide_eq_true h1
        rw [if_pos h1] at hpk
        refine ⟨_, rfl, _, rfl, _, rfl, (by show 3 ≤ sizeLine; decide), fun c2 hc2 => ?_⟩
        refine ⟨c2, _, _, _, rfl, ?_, same_upd sm (sm.free hc2)⟩
        rw [upd_same, hpk]
        unfold tri3
        rw [Int.zero_add]
      · have h1 := of_decide_eq_false h1
        rw [if_neg h1] at hpk
        exact ⟨c, _, _, _, rfl, by rw [hpk]; exact hc, sm⟩
    · rintro σ H' ⟨c, v3, v4, v5, rfl, hc, sm⟩
      refine ⟨_, rfl, k' _ c sm ?_⟩
      rw [hc]
      have : ((n : Int) / (m.short : Int) + 1).toNat = n / m.short + 1 := by rw [e1]; omega
      rw [this]
      rfl
end
end Fw

end

section
set_option Elab.async false
set_option linter.all false
set_option maxRecDepth 100000
set_option maxHeartbeats 4000000
namespace Fw
open PySem PySem.Spec PyProof.Rows L2
open Kqb1 (Piece Sheet Web)
open Fc (M Rel Good)

theorem small100k {n : Nat} (h : n ≤ 100000) : n < sizeLine := Nat.lt_of_le_of_lt h (by decide)
section
variable {P : Program} {w : World} {K : PySem.W.Frag} {mg : Str → Option Value} {base : Heap} {C f : Addr} {fd : FuncData}
/-! ### plan_of -/
/-- n sheets of the size z, one behind another -/
theorem cut_loop {D : Ends} {p sh : Addr} {m : M} {dx tl tw df ds : Addr} {Hb H : Hp} (W : WebAt C Hb p m dx tl tw df ds) (cl : Cls K C) (nl : NoAttr K C "lengths") {b0 z n : Nat} (hz : z ≤ 1) (hn : n ≤ 80) {l : List (Nat × Nat)} {ss : List (Addr × (Nat × Nat))} {s1 s3 s4 s5 v9 : Option V}
    (hl : l.length + n ≤ 100000) (hp : PAt H sh l ss) (hk : ∀ q o, Hb q = some o → q ≠ sh → H q = some o) {xs0 : List V} (hsh : Hb sh = some (.lst xs0))
    (hd : ∀ (H' : Hp) (ss' : List (Addr × (Nat × Nat))) (v9' : Option V), PAt H' sh (l ++ Fc.run b0 (m.size z) z n) ss' → (∀ q o, Hb q = some o → q ≠ sh → H' q = some o) → D.nx [some (.ref p), s1, some (.ref sh), s3, s4, s5, some (.int ((b0 + n * m.size z : Nat) : Int)), some (.int z), some (.int n), v9'] H') :
    tFor (iRng1 (tCons (tVar 8) tNil)) (gName 9) (tSeq (tDrop (tBM K "list" rAppend (tVar 2) (tCons (tTup (tCons (tVar 6) (tCons (tVar 7) tNil))) tNil))) (tAug 6 (tOp (rIxT K) (tFld K (tVar 0) "lengths") (tVar 7)) (ipI fun i j => i + j))) D
      [some (.ref p), s1, some (.ref sh), s3, s4, s5, some (.int b0), some (.int z), some (.int n), v9] H := by
  have np : p ≠ sh := ne_of W.obj hsh (by intro q; cases q)
  have nt : tl ≠ sh := ne_of W.len hsh (by intro q; cases q)
  refine ⟨_, rfl, _, rfl, by omega, by omega, ?_⟩
  refine for_range (lo := 0) (n := ((n : Nat) : Int).toNat) (fun t σ H' => ∃ (ss' : List (Addr × (Nat × Nat))) (v9' : Option V), σ = [some (.ref p), s1, some (.ref sh), s3, s4, s5, some (.int ((b0 + t * m.size z : Nat) : Int)), some (.int z), some (.int n), v9'] ∧
    PAt H' sh (l ++ Fc.run b0 (m.size z) z t) ss' ∧ ∀ q o, Hb q = some o → q ≠ sh → H' q = some o) ⟨ss, v9, by rw [Nat.zero_mul, Nat.add_zero], by rw [show Fc.run b0 (m.size z) z 0 = [] from rfl, List.append_nil]; exact hp, hk⟩ ?_ ?_
  · rintro t σ H' ht ⟨ss', v9', rfl, hp', hk'⟩
    have hlen : ss'.length ≤ 99999 := by
      rw [hp'.len, List.length_append, Fc.run_len]
      omega
    refine ⟨_, rfl, .inl ⟨rfl, _, SqL.of hp'.at_⟩, _, rfl, _, rfl, (by show 2 ≤ sizeLine; decide), fun u hu => ?_⟩
    refine ⟨sh, _, _, rfl, rfl, (by rw [upd_ne (ne_of_none hp'.at_ hu)]; exact hp'.at_), (by rw [List.length_map]; exact small100k (by omega)), ?_⟩
    have hp2 := Pairs.snoc (x := b0 + t * m.size z) (y := z) hp' hu
    have hk2 : ∀ q o, Hb q = some o → q ≠ sh → (upd (upd H' u (.tup [.int ((b0 + t * m.size z : Nat) : Int), .int z])) sh (.lst (ss'.map (fun r => V.ref r.1) ++ [.ref u]))) q = some o := fun q o e n => by
      rw [upd_ne n, upd_ne (ne_of_none (hk' q o e n) hu)]
      exact hk' q o e n
    refine ⟨_, rfl, _, rfl, p, C, dx, _, _, rfl, hk2 _ _ W.obj np, cl, nl, rfl, _, rfl, tl, _, _, _, rfl, rfl, SqT.of (hk2 _ _ W.len nt), at2 hz, _, _, rfl, rfl, ss' ++ [(u, (b0 + t * m.size z, z))], some (.int (0 + (t : Int))), ?_, ?_, hk2⟩
    · have e : ((b0 + t * m.size z : Nat) : Int) + ((if z = 0 then m.short else m.tall : Nat) : Int) = ((b0 + (t + 1) * m.size z : Nat) : Int) := by
        rw [← Int.natCast_add]
        congr 1
        rw [Nat.add_mul, Nat.one_mul, ← Nat.add_assoc]
        rfl
      dsimp only
      rw [e]
      rfl
    · rw [show Fc.run b0 (m.size z) z (t + 1) = Fc.run b0 (m.size z) z t ++ [(b0 + t * m.size z, z)] from rfl, ← List.append_assoc]
      exact hp2
  · rintro σ H' ⟨ss', v9', rfl, hp', hk'⟩
    exact hd _ _ _ hp' hk'
theorem scPlan : FnScope ["web", "lane", "sheets", "begin", "end", "chosen", "place", "size", "many", "cut"] ["web", "lane"] (defScope (top 27)) := ⟨rfl, rfl, rfl, by decide +kernel, rfl, by decide +kernel, by decide +kernel⟩
theorem ok_plan_of (F : Fun K "plan_of" "plan_of" (top 27) f fd) (T : Txt K mg C) (G1 : Callee P w K mg base "stretches_of" 3 ["web", "lane"] (spPairs C M.stretches)) (G2 : Callee P w K mg base "best_of" 1 ["web", "room"] (spBest C)) : FnOk P w K mg base CX0 4 f fd ["web", "lane"] (spPairs C M.plan) := by
  refine F.ok scPlan (fun vs H Q E h => ?_) (fun cdv A outer s H vs Q E hr h => ?_)
  · obtain ⟨p, m, k, rfl, _⟩ := h
    rfl
  · obtain ⟨p, m, k, rfl, ⟨dx, tl, tw, df, ds, W⟩, G, k'⟩ := h
    have nd := scPlan.nd
    refine ⟨_, (pss_cons (ps_set (i := 2) nd rfl (Or.inl rfl) (pe_lst pa_nil))
      (pss_cons (ps_for PassesOwn.never rfl (pi_list (pe_fn G1 hr (pa_cons (pv 0) (pa_cons (pv 1) pa_nil)))) (pg_tup rfl (pgs_cons (pg_name (i := 3) nd rfl (Or.inl rfl)) (pgs_cons (pg_name (i := 4) nd rfl (Or.inl rfl)) pgs_nil)))
      (pss_cons (ps_set (i := 5) nd rfl (Or.inl rfl) (pe_fn G2 (hr.mono (by decide)) (pa_cons (pv 0) (pa_cons (pe_op op_sub (pv 4) (pv 3)) pa_nil))))
        (pss_cons (ps_set (i := 6) nd rfl (Or.inl rfl) (pv 3))
        (pss_one (ps_for PassesOwn.never rfl (pi_tup (pe_tup (pa_cons (pe_tup (pa_cons (pe_gint T.cSHORT) (pa_cons (pe_ix ix_tup (pv 5) pe_int (fun _ _ => rfl)) pa_nil))) (pa_cons (pe_tup (pa_cons (pe_gint T.cTALL) (pa_cons (pe_ix ix_tup (pv 5) pe_int (fun _ _ => rfl)) pa_nil))) pa_nil)))) (pg_tup rfl (pgs_cons (pg_name (i := 7) nd rfl (Or.inl rfl)) (pgs_cons (pg_name (i := 8) nd rfl (Or.inl rfl)) pgs_nil)))
        (pss_one (ps_for PassesOwn.never rfl (pi_range1 rfl T.brange (pa_cons (pv 8) pa_nil)) (pg_name (i := 9) nd rfl (Or.inl rfl))
          (pss_cons (ps_expr (pe_bm PySem.F.plainAttrs_list PySem.F.slot_list_append PySem.F.type_list_append mt_append (pv 2) (pa_cons (pe_tup (pa_cons (pv 6) (pa_cons (pv 7) pa_nil))) pa_nil)))
            (pss_one (ps_aug (i := 6) nd rfl (Or.inl rfl) (pe_ix ix_tup (pe_fld (pv 0) rfl) (pv 7) (fun _ _ => rfl)) ip_add))))))))))
      (pss_one (ps_ret (pv 2))))), ?_⟩
    have h80 := G.n80
    refine ⟨Nat.zero_le _, fun sh hsh => ?_⟩
    have s0 : Same H (upd H sh (.lst [])) := same_new hsh
    refine ⟨_, rfl, _, rfl, p, m, k, rfl, ⟨dx, tl, tw, df, ds, W.same s0⟩, G, fun H1 a s1 ⟨rs, ps⟩ => ?_⟩
    have hsh1 : H1 sh = some (.lst []) := s1 _ _ upd_same
    have W1 := (W.same s0).same s1
    have sH : Same H H1 := s0.trans s1
    have hrl : rs.length ≤ 80 := by
      have := Fc.M.stretches_len m k
      rw [ps.len]
      omega
    have rsm : ∀ r ∈ rs, r.2.1 < r.2.2 ∧ r.2.2 ≤ m.long := fun r hr => by
      have : (r.2.1, r.2.2) ∈ m.stretches k := by
        rw [ps.eq]
        exact List.mem_map.mpr ⟨r, hr, rfl⟩
      have z := Fc.M.stretches_mem this
      exact ⟨z.1, z.2.1⟩
    have na : a ≠ sh ∨ rs = [] := by
      by_cases e : a = sh
      · right
        have z := ps.at_
        rw [e, hsh1] at z
        have z := Option.some.inj z
        injection z with z
        simpa using z.symm
      · exact .inl e
    refine ⟨a, rfl, ⟨_, SqL.of ps.at_⟩, ?_⟩
    rcases na with na | na
    · refine for_list (K := K) (a := a) (xs := rs.map fun r => V.ref r.1) (fun i σ H' => (∃ v3 v4 v5 v6 v7 v8 v9, σ = [some (.ref p), some (.int k), some (.ref sh), v3, v4, v5, v6, v7, v8, v9]) ∧
        (∃ ss, PAt H' sh (((rs.take i).map (·.2)).flatMap m.cuts) ss) ∧ (((rs.take i).map (·.2)).flatMap m.cuts).length ≤ i * 160 ∧ ∀ q o, H1 q = some o → q ≠ sh → H' q = some o)
        ⟨⟨none, none, none, none, none, none, none, rfl⟩, ⟨[], rfl, hsh1, fun r hr => by cases hr⟩, Nat.zero_le _, fun q o e _ => e⟩ (fun i σ H' _ ⟨_, _, _, h⟩ => SqL.of (h _ _ ps.at_ na)) ?_ ?_
      · rintro i x σ H' hx ⟨⟨v3, v4, v5, v6, v7, v8, v9, rfl⟩, ⟨ss, hp⟩, hlen, hk⟩
        obtain ⟨r, hr1, rfl⟩ := map_at hx
        have hm := mem_of_at hr1
        have hi := lt_of_at hr1
        obtain ⟨r1, r2⟩ := rsm r hm
        have ht := hk _ _ (ps.tup r hm) (ne_of (ps.tup r hm) hsh1 (by intro z; cases z))
        refine ⟨_, _, rfl, SqT.of ht, rfl, _, _, rfl, _, _, rfl, rfl, ?_⟩
        have W2 : Is C H' p m := by
          refine ⟨dx, tl, tw, df, ds, hk _ _ W1.obj (ne_of W1.obj hsh1 (by intro z; cases z)), hk _ _ W1.len (ne_of W1.len hsh1 (by intro z; cases z)), hk _ _ W1.wor (ne_of W1.wor hsh1 (by intro z; cases z)), ?_, ?_, W1.ne⟩
          · obtain ⟨fs, z⟩ := W1.fau
            exact ⟨fs, z.eq, hk _ _ z.at_ (ne_of z.at_ hsh1 (by intro z; cases z)), fun q hq => hk _ _ (z.tup q hq) (ne_of (z.tup q hq) hsh1 (by intro z; cases z))⟩
          · obtain ⟨fs, z⟩ := W1.she
            exact ⟨fs, z.eq, hk _ _ z.at_ (ne_of z.at_ hsh1 (by intro z; cases z)), fun q hq => hk _ _ (z.tup q hq) (ne_of (z.tup q hq) hsh1 (by intro z; cases z))⟩
        refine ⟨_, rfl, _, rfl, _, rfl, _, _, rfl, rfl, p, m, r.2.2 - r.2.1, (by rw [Int.natCast_sub (Nat.le_of_lt r1)]; rfl), W2, G, by omega, fun H2 c s2 hc => ?_⟩
        refine ⟨_, rfl, ?_⟩
        have hb := Fc.M.best_bound G (r.2.2 - r.2.1)
        refine ⟨_, rfl, c, _, _, _, rfl, rfl, SqT.of hc, rfl, (by show 2 ≤ sizeLine; decide), fun t1 ht1 => ?_⟩
        have u1 : Same H2 (upd H2 t1 (.tup [.int 0, .int (m.best (r.2.2 - r.2.1)).2.1])) := same_new ht1
        refine ⟨_, rfl, c, _, _, _, rfl, rfl, SqT.of (u1 _ _ hc), rfl, (by show 2 ≤ sizeLine; decide), fun t2 ht2 => ?_⟩
        have u2 : Same (upd H2 t1 (.tup [.int 0, .int (m.best (r.2.2 - r.2.1)).2.1])) (upd (upd H2 t1 (.tup [.int 0, .int (m.best (r.2.2 - r.2.1)).2.1])) t2 (.tup [.int 1, .int (m.best (r.2.2 - r.2.1)).2.2])) := same_new ht2
        refine ⟨(by show 2 ≤ sizeLine; decide), fun t0 ht0 => ?_⟩
        have u3 : Same (upd (upd H2 t1 (.tup [.int 0, .int (m.best (r.2.2 - r.2.1)).2.1])) t2 (.tup [.int 1, .int (m.best (r.2.2 - r.2.1)).2.2])) (upd (upd (upd H2 t1 (.tup [.int 0, .int (m.best (r.2.2 - r.2.1)).2.1])) t2 (.tup [.int 1, .int (m.best (r.2.2 - r.2.1)).2.2])) t0 (.tup [.ref t1, .ref t2])) := same_new ht0
        have f1 := u3 _ _ (u2 _ _ (upd_same (H := H2) (a := t1) (o := .tup [.int 0, .int (m.best (r.2.2 - r.2.1)).2.1])))
        have f2 := u3 _ _ (upd_same (H := upd H2 t1 (.tup [.int 0, .int (m.best (r.2.2 - r.2.1)).2.1])) (a := t2) (o := .tup [.int 1, .int (m.best (r.2.2 - r.2.1)).2.2]))
        have f0 : (upd (upd (upd H2 t1 (.tup [.int 0, .int (m.best (r.2.2 - r.2.1)).2.1])) t2 (.tup [.int 1, .int (m.best (r.2.2 - r.2.1)).2.2])) t0 (.tup [.ref t1, .ref t2])) t0 = some (.tup [.ref t1, .ref t2]) := upd_same
        have su : Same H2 (upd (upd (upd H2 t1 (.tup [.int 0, .int (m.best (r.2.2 - r.2.1)).2.1])) t2 (.tup [.int 1, .int (m.best (r.2.2 - r.2.1)).2.2])) t0 (.tup [.ref t1, .ref t2])) := (u1.trans u2).trans u3
        generalize (upd (upd (upd H2 t1 (.tup [.int 0, .int (m.best (r.2.2 - r.2.1)).2.1])) t2 (.tup [.int 1, .int (m.best (r.2.2 - r.2.1)).2.2])) t0 (.tup [.ref t1, .ref t2])) = H5 at f1 f2 f0 su
        have s5 : Same H' H5 := s2.trans su
        obtain ⟨dx', tl', tw', df', ds', W5⟩ := W2.same s5
        have hp5 := hp.same s5
        have hk5 : ∀ q o, H1 q = some o → q ≠ sh → H5 q = some o := fun q o e n => s5 _ _ (hk q o e n)
        have nshr : ∀ {q : Addr} {xs : List V}, H5 q = some (.tup xs) → q ≠ sh := fun h => ne_of h hp5.at_ (by intro z; cases z)
        refine ⟨t0, rfl, ⟨_, SqT.of f0⟩, ?_⟩
        refine for_tup (K := K) (a := t0) (xs := [.ref t1, .ref t2]) (fun j σ H' => ∃ (l : List (Nat × Nat)) (pl : Nat) (ss : List (Addr × (Nat × Nat))) (v7 v8 v9 : Option V), σ = [some (.ref p), some (.int k), some (.ref sh), some (.int r.2.1), some (.int r.2.2), some (.ref c), some (.int pl), v7, v8, v9] ∧ PAt H' sh l ss ∧
          (j = 0 ∧ l = ((rs.take i).map (·.2)).flatMap m.cuts ∧ pl = r.2.1 ∨ j = 1 ∧ l = ((rs.take i).map (·.2)).flatMap m.cuts ++ Fc.run r.2.1 m.short 0 (m.best (r.2.2 - r.2.1)).2.1 ∧ pl = r.2.1 + (m.best (r.2.2 - r.2.1)).2.1 * m.short ∨
            j = 2 ∧ l = ((rs.take i).map (·.2)).flatMap m.cuts ++ Fc.run r.2.1 m.short 0 (m.best (r.2.2 - r.2.1)).2.1 ++ Fc.run (r.2.1 + (m.best (r.2.2 - r.2.1)).2.1 * m.short) m.tall 1 (m.best (r.2.2 - r.2.1)).2.2) ∧ ∀ q o, H5 q = some o → q ≠ sh → H' q = some o)
          ⟨_, _, ss, _, _, _, rfl, hp5, .inl ⟨rfl, rfl, rfl⟩, fun q o e _ => e⟩ (fun j σ H' _ ⟨_, _, _, _, _, _, _, _, _, h⟩ => SqT.of (h _ _ f0 (nshr f0))) ?_ ?_
        · rintro j x σ H6 hx ⟨l, pl, ss6, v7, v8, v9, rfl, hp6, hj, hk6⟩
          have hpl : l.length ≤ 12960 := by
            rcases hj with ⟨_, rfl, _⟩ | ⟨_, rfl, _⟩ | ⟨rfl, _⟩
            · omega
            · rw [List.length_append, Fc.run_len]
              omega
            · simp at hx
          rcases hj with ⟨rfl, rfl, rfl⟩ | ⟨rfl, rfl, rfl⟩ | ⟨rfl, _⟩
          · have e : V.ref t1 = x := by simpa using hx
            subst e
            refine ⟨_, _, rfl, SqT.of (hk6 _ _ f1 (nshr f1)), rfl, _, _, rfl, _, _, rfl, rfl, ?_⟩
            refine cut_loop (K := K) (C := C) W5 T.cl T.nlengths (z := 0) (by decide) (by omega) (by omega) hp6 hk6 hp5.at_ (fun H7 ss7 v9' hp7 hk7 => ?_)
            exact ⟨_, _, ss7, _, _, _, rfl, hp7, .inr (.inl ⟨rfl, rfl, rfl⟩), hk7⟩
          · have e : V.ref t2 = x := by simpa using hx
            subst e
            refine ⟨_, _, rfl, SqT.of (hk6 _ _ f2 (nshr f2)), rfl, _, _, rfl, _, _, rfl, rfl, ?_⟩
            refine cut_loop (K := K) (C := C) W5 T.cl T.nlengths (z := 1) (by decide) (by omega) (by omega) hp6 hk6 hp5.at_ (fun H7 ss7 v9' hp7 hk7 => ?_)
            exact ⟨_, _, ss7, _, _, _, rfl, hp7, .inr (.inr ⟨rfl, rfl⟩), hk7⟩
          · simp at hx
        · rintro σ H6 ⟨l, pl, ss6, v7, v8, v9, rfl, hp6, hj, hk6⟩
          rcases hj with ⟨h, _⟩ | ⟨h, _⟩ | ⟨_, rfl⟩
          · exact absurd h (by simp)
          · exact absurd h (by simp)
          have el : ((rs.take (i + 1)).map (·.2)).flatMap m.cuts = ((rs.take i).map (·.2)).flatMap m.cuts ++ Fc.run r.2.1 m.short 0 (m.best (r.2.2 - r.2.1)).2.1 ++ Fc.run (r.2.1 + (m.best (r.2.2 - r.2.1)).2.1 * m.short) m.tall 1 (m.best (r.2.2 - r.2.1)).2.2 := by
            rw [take_snoc hr1, List.map_append, List.flatMap_append, List.append_assoc]
            congr 1
            show m.cuts r.2 ++ [] = _
            rw [List.append_nil]
            rfl
          refine ⟨⟨_, _, _, _, _, _, _, rfl⟩, ⟨ss6, by rw [el]; exact hp6⟩, ?_, fun q o e n => hk6 _ _ (hk5 q o e n) n⟩
          rw [el, List.length_append, List.length_append, Fc.run_len, Fc.run_len]
          omega
      · rintro σ H' ⟨⟨v3, v4, v5, v6, v7, v8, v9, rfl⟩, ⟨ss, hp⟩, _, hk⟩
        rw [List.length_map, List.take_length, ← ps.eq] at hp
        refine ⟨_, rfl, k' _ sh (fun q o e => ?_) ⟨ss, hp⟩⟩
        exact hk _ _ (sH _ _ e) (ne_of_none e hsh)
    · subst na
      refine for_list (K := K) (a := a) (xs := []) (fun i σ H' => σ = [some (.ref p), some (.int k), some (.ref sh), none, none, none, none, none, none, none] ∧ H' = H1) ⟨rfl, rfl⟩ (fun i σ H' _ ⟨_, e⟩ => by rw [e]; exact SqL.of ps.at_) (fun i x σ H' hx => by simp at hx) ?_
      rintro σ H' ⟨rfl, rfl⟩
      refine ⟨_, rfl, k' _ sh sH ⟨[], ?_, hsh1, fun r hr => by cases hr⟩⟩
      unfold Fc.M.plan
      rw [ps.eq]
      rfl
end
end Fw

end

section
set_option Elab.async false
set_option linter.all false
set_option maxRecDepth 100000
set_option maxHeartbeats 4000000
namespace Fw
open PySem PySem.Spec PyProof.Rows L2
open Kqb1 (Piece Sheet Web)
open Fc (M Rel Good)

theorem sum_cast {α : Type} (g : α → Nat) : ∀ l : List α, (l.map fun x => ((g x : Nat) : Int)).sum = ((l.map g).sum : Nat)
  | [] => rfl
  | a :: l => by
    rw [List.map_cons, List.sum_cons, sum_cast g l, List.map_cons, List.sum_cons, Int.natCast_add]
theorem plan_size {m : M} {k : Nat} : ∀ q ∈ m.plan k, q.2 ≤ 1 := fun q hq => by
  unfold Fc.M.plan at hq
  obtain ⟨r, _, hr⟩ := List.mem_flatMap.mp hq
  unfold Fc.M.cuts at hr
  rw [Fc.run_eq, Fc.run_eq] at hr
  rcases List.mem_append.mp hr with z | z
  · obtain ⟨i, _, e⟩ := List.mem_map.mp z
    rw [← e]
    exact Nat.zero_le 1
  · obtain ⟨i, _, e⟩ := List.mem_map.mp z
    rw [← e]
    exact Nat.le_refl 1
section
variable {P : Program} {w : World} {K : PySem.W.Frag} {mg : Str → Option Value} {base : Heap} {C f : Addr} {fd : FuncData}
/-! ### worth_of -/
def spNum (C : Addr) (g : M → Nat → Nat) : Sp := fun vs H Q _ => ∃ (p : Addr) (m : M) (k : Nat), vs = [.ref p, .int k] ∧ Is C H p m ∧ Good m ∧ ∀ H' : Hp, Same H H' → Q (.int ((g m k : Nat) : Int)) H'
theorem scWorth : FnScope ["web", "lane", "begin", "size"] ["web", "lane"] (defScope (top 28)) := ⟨rfl, rfl, rfl, by decide +kernel, rfl, by decide +kernel, by decide +kernel⟩
theorem ok_worth_of (F : Fun K "worth_of" "worth_of" (top 28) f fd) (T : Txt K mg C) (G1 : Callee P w K mg base "plan_of" 4 ["web", "lane"] (spPairs C M.plan)) : FnOk P w K mg base CX0 5 f fd ["web", "lane"] (spNum C M.laneWorth) := by
  refine F.ok scWorth (fun vs H Q E h => ?_) (fun cdv A outer s H vs Q E hr h => ?_)
  · obtain ⟨p, m, k, rfl, _⟩ := h
    rfl
  · obtain ⟨p, m, k, rfl, hW, G, k'⟩ := h
    have nd := scWorth.nd
    refine ⟨_, (pss_one (ps_ret (pe_callB (cr_sum rfl) (by rfl) T.bsum PyProof.Rows.boot_sum (pa_cons (pe_lc (own := [("begin", 2), ("size", 3)]) (g := gTup K 2 (gCons (gName 2) (gCons (gName 3) gNil))) (te := tOp (rIxT K) (tFld K (tVar 0) "worths") (tVar 3)) rfl nd (pi_list (pe_fn G1 hr (pa_cons (pv 0) (pa_cons (pv 1) pa_nil)))) (blkOk_by (by rfl)) (fun _ _ _ _ _ => (pg_tup rfl (pgs_cons (pg_name (i := 2) nd rfl (Or.inl rfl)) (pgs_cons (pg_name (i := 3) nd rfl (Or.inl rfl)) pgs_nil)))) (fun _ _ _ _ _ => pts_nil) (fun _ _ _ _ _ => (pe_ix ix_tup (pe_fld (pv 0) rfl) (pv 3) (fun _ _ => rfl)))) pa_nil)))), ?_⟩
    refine ⟨_, rfl, _, rfl, p, m, k, rfl, hW, G, fun H1 a s1 ⟨rs, ps⟩ => ?_⟩
    obtain ⟨dx, tl, tw, df, ds, W⟩ := hW.same s1
    have hlen : rs.length ≤ 12800 := by rw [ps.len]; exact Fc.M.plan_len G k
    refine ⟨a, rfl, ⟨_, SqL.of ps.at_⟩, fun D hD => ?_⟩
    refine lc_list (K := K) (a := a) (xs := rs.map fun r => V.ref r.1) (fun i H' => H' D = some (.lst ((rs.take i).map fun r => V.int ((m.worth r.2.2 : Nat) : Int))) ∧ Same H1 H') ⟨upd_same, same_new hD⟩ (fun i H' _ h => SqL.of (h.2 _ _ ps.at_)) ?_ ?_
    · rintro i x H' hx ⟨hD', s2⟩
      obtain ⟨r, hr1, rfl⟩ := map_at hx
      have hm := mem_of_at hr1
      have hi := lt_of_at hr1
      have hz : r.2.2 ≤ 1 := plan_size (m := m) (k := k) r.2 (by rw [ps.eq]; exact List.mem_map.mpr ⟨r, hm, rfl⟩)
      refine ⟨_, _, rfl, SqT.of (s2 _ _ (ps.tup r hm)), rfl, _, _, rfl, _, _, rfl, rfl, rfl, tYes_i ?_⟩
      refine iteT ?_
      refine ⟨_, rfl, p, C, dx, _, _, rfl, s2 _ _ W.obj, T.cl, T.nworths, rfl, _, rfl, tw, _, _, _, rfl, rfl, SqT.of (s2 _ _ W.wor), at2 hz, _, hD', ?_, ?_, same_upd s2 hD⟩
      · rw [List.length_map, List.length_take]
        exact small100k (by omega)
      · rw [upd_same, take_snoc hr1, List.map_append]
        rfl
    · rintro H' ⟨hD', s2⟩
      rw [List.length_map, List.take_length] at hD'
      refine ⟨D, rs.map (fun r => ((m.worth r.2.2 : Nat) : Int)), rfl, SqL.of (by rw [hD', List.map_map]; rfl), ?_⟩
      have e : (rs.map fun r => ((m.worth r.2.2 : Nat) : Int)).sum = ((m.laneWorth k : Nat) : Int) := by
        rw [sum_cast (fun r : Addr × (Nat × Nat) => m.worth r.2.2), ← Fc.sum_plan, ps.eq, List.map_map]
        rfl
      rw [e]
      exact k' _ (s1.trans s2)
/-! ### counted_pairs -/
def flat2 (l : List (Nat × Nat)) : List Int := l.flatMap fun q => [(q.1 : Int), (q.2 : Int)]
def spCounted : Sp := fun vs H Q _ => ∃ (a : Addr) (l : List (Nat × Nat)), vs = [.ref a] ∧ Pairs H a l ∧ l.length ≤ 12800 ∧ ∀ (H' : Hp) (b : Addr), Same H H' → H b = none → H' b = some (.lst (((l.length : Int) :: flat2 l).map V.int)) → Q (.ref b) H'
theorem scCounted : FnScope ["pairs", "numbers", "pair"] ["pairs"] (defScope (top 33)) := ⟨rfl, rfl, rfl, by decide +kernel, rfl, by decide +kernel, by decide +kernel⟩
theorem flat2_len (l : List (Nat × Nat)) : (flat2 l).length = 2 * l.length := by
  induction l with
  | nil => rfl
  | cons a l ih =>
    show (_ :: _ :: flat2 l).length = _
    rw [List.length_cons, List.length_cons, ih, List.length_cons]
    omega
theorem ok_counted (F : Fun K "counted_pairs" "counted_pairs" (top 33) f fd) (T : Txt K mg C) : FnOk P w K mg base CX0 1 f fd ["pairs"] spCounted := by
  refine F.ok scCounted (fun vs H Q E h => ?_) (fun cdv A outer s H vs Q E hr h => ?_)
  · obtain ⟨a, l, rfl, _⟩ := h
    rfl
  · obtain ⟨a, l, rfl, ⟨rs, ps⟩, hl, k'⟩ := h
    have nd := scCounted.nd
    refine ⟨_, (pss_cons (ps_set (i := 1) nd rfl (Or.inl rfl) (pe_lst (pa_cons (pe_callB call_len_seq (by rfl) T.blen PySem.boot_len (pa_cons (pv 0) pa_nil)) pa_nil)))
      (pss_cons (ps_for PassesOwn.never rfl (pi_list (pv 0)) (pg_name (i := 2) nd rfl (Or.inl rfl))
      (pss_one (ps_expr (pe_bm PySem.F.plainAttrs_list PySem.F.slot_list_extend PySem.F.type_list_extend mt_extendT (pv 1) (pa_cons (pv 2) pa_nil)))))
      (pss_one (ps_ret (pv 1))))), ?_⟩
    have hrl := ps.len
    refine ⟨_, rfl, a, _, rfl, .inl (SqL.of ps.at_), (by show 1 ≤ sizeLine; decide), fun b hb => ?_⟩
    have s1 : Same H (upd H b (.lst [.int ((rs.map fun r => V.ref r.1).length : Nat)])) := same_new hb
    refine ⟨_, rfl, a, rfl, ⟨_, SqL.of (s1 _ _ ps.at_)⟩, ?_⟩
    refine for_list (K := K) (a := a) (xs := rs.map fun r => V.ref r.1) (fun i σ H' => (∃ v2, σ = [some (.ref a), some (.ref b), v2]) ∧ H' b = some (.lst (((l.length : Int) :: flat2 ((rs.take i).map (·.2))).map V.int)) ∧ Same H H')
      ⟨⟨none, rfl⟩, by rw [upd_same, List.length_map, hrl]; rfl, s1⟩ (fun i σ H' _ h => SqL.of (h.2.2 _ _ ps.at_)) ?_ ?_
    · rintro i x σ H' hx ⟨⟨v2, rfl⟩, hb', s2⟩
      obtain ⟨r, hr1, rfl⟩ := map_at hx
      have hi := lt_of_at hr1
      refine ⟨_, rfl, .inl ⟨rfl, _, SqL.of hb'⟩, _, rfl, b, _, _, _, rfl, rfl, hb', SqT.of (s2 _ _ (ps.tup r (mem_of_at hr1))), ?_, ⟨_, rfl⟩, ?_, same_upd s2 hb⟩
      · rw [List.length_map, List.length_cons, flat2_len, List.length_map, List.length_take]
        show _ + 2 ≤ _
        exact Nat.le_of_lt (small100k (by omega))
      · rw [upd_same, take_snoc hr1, List.map_append]
        unfold flat2
        rw [List.flatMap_append, List.map_cons, List.map_cons, List.map_append]
        rfl
    · rintro σ H' ⟨⟨v2, rfl⟩, hb', s2⟩
      rw [List.length_map, List.take_length, ← ps.eq] at hb'
      exact ⟨_, rfl, k' _ b s2 hb hb'⟩
end
end Fw

end

section
set_option Elab.async false
set_option linter.all false
set_option maxRecDepth 100000
set_option maxHeartbeats 4000000
namespace Fw
open PySem PySem.Spec PyProof.Rows L2
open Kqb1 (Piece Sheet Web)
open Fc (M Rel Good)
open Kqb1Neutral (tell)

/-! ### a call's end -/
structure Lists (H H' : Hp) : Prop where
  lst : ∀ b xs, H b = some (.lst xs) → H' b = some (.lst xs)
  frz : ∀ b o u, H b = some (.frz o u) → H' b = some (.frz o u)
theorem Lists.of {H H' : Hp} (s : Same H H') : Lists H H' := ⟨fun b xs e => s _ _ e, fun b o u e => s _ _ e⟩
theorem Lists.trans {H H1 H2 : Hp} (a : Lists H H1) (b : Lists H1 H2) : Lists H H2 := ⟨fun c xs e => b.lst _ _ (a.lst _ _ e), fun c o u e => b.frz _ _ _ (a.frz _ _ _ e)⟩
def Told (C : Addr) (H : Hp) (p : Addr) (w : Web) : Prop := ∃ m, Is C H p m ∧ Rel m w ∧ Good m
theorem Told.same {C p : Addr} {H H' : Hp} {w : Web} (s : Same H H') (h : Told C H p w) : Told C H' p w := by
  obtain ⟨m, h1, h2, h3⟩ := h
  exact ⟨m, h1.same s, h2, h3⟩
def Done (C : Addr) (H : Hp) (p : Addr) (w : Web) (c : Kqb1.Call) (Q : VK) : Prop := ∀ (H' : Hp) (a : Addr) (w' : Web), Lists H H' → H a = none → (Kqb1.step (some w) c).1 = some w' → Told C H' p w' → H' a = some (.lst ((tell (Kqb1.step (some w) c).2).map V.int)) → Q (.ref a) H'
theorem Done.stay {C p a : Addr} {H H' : Hp} {w : Web} {c : Kqb1.Call} {Q : VK} {ans : Kqb1.Ans} (D : Done C H p w c Q) (e : Kqb1.step (some w) c = (some w, ans)) (t : Told C H p w) (s : Same H H') (hn : H a = none) (h : H' a = some (.lst ((tell ans).map V.int))) : Q (.ref a) H' :=
  D H' a w (Lists.of s) hn (by rw [e]) (t.same s) (by rw [e]; exact h)
/-- .. where the answer lies in a new list -/
theorem Done.new {C p a : Addr} {H H1 : Hp} {w : Web} {c : Kqb1.Call} {Q : VK} {ans : Kqb1.Ans} {vs : List V} (D : Done C H p w c Q) (e : Kqb1.step (some w) c = (some w, ans)) (t : Told C H p w) (s : Same H H1) (ha : H1 a = none) (h : vs = (tell ans).map V.int) : Q (.ref a) (upd H1 a (.lst vs)) :=
  D.stay e t (same_upd s (s.free ha)) (s.free ha) (by rw [upd_same, h])
def spCmd0 (C : Addr) (c : Kqb1.Call) : Sp := fun vs H Q _ => ∃ (p : Addr) (w : Web), vs = [.ref p] ∧ Told C H p w ∧ Done C H p w c Q
def spCmd1 (C : Addr) (c : Nat → Kqb1.Call) : Sp := fun vs H Q _ => ∃ (p : Addr) (w : Web) (a : Nat), vs = [.ref p, .int a] ∧ Told C H p w ∧ Done C H p w (c a) Q
def spCmd3 (C : Addr) (c : Nat → Nat → Nat → Kqb1.Call) : Sp := fun vs H Q _ => ∃ (p : Addr) (w : Web) (a b d : Nat), vs = [.ref p, .int a, .int b, .int d] ∧ Told C H p w ∧ Done C H p w (c a b d) Q

/-! ### the machine's steps -/
section
variable (w : Web)
theorem step_coat (n : Nat) : Kqb1.step (some w) (.coat n) = if n = 0 ∨ Kqb1.LONG < w.long + n then (some w, .num (-22)) else (some { w with long := w.long + n }, .num (w.long + n : Nat)) := rfl
theorem step_fault (k a b : Nat) : Kqb1.step (some w) (.fault k a b) = if w.lanes ≤ k ∨ b ≤ a ∨ w.long < b then (some w, .num (-22)) else if (List.range (b - a)).any (fun i => Kqb1.stamped w k (a + i)) = true then (some w, .num (-16)) else if 8 ≤ Kqb1.count w.faults then (some w, .num (-28)) else (some { w with faults := Kqb1.putIn w.faults ⟨k, a, b⟩ }, .num (Kqb1.slot w.faults)) := rfl
theorem step_mend (f : Nat) : Kqb1.step (some w) (.mend f) = if (w.faults.getD f none).isNone then (some w, .num (-2)) else (some (Kqb1.without w f), .num (Kqb1.count w.faults - 1 : Nat)) := rfl
theorem step_stretches (k : Nat) : Kqb1.step (some w) (.stretches k) = (some w, if w.lanes ≤ k then .num (-22) else .some_ (Kqb1.stretches w k).length ((Kqb1.stretches w k).flatMap fun p => [p.1, p.2])) := rfl
theorem step_best (n : Nat) : Kqb1.step (some w) (.best n) = (some w, if Kqb1.LONG < n then .num (-22) else .some_ (Kqb1.value w (Kqb1.best w n)) [(Kqb1.best w n).1, (Kqb1.best w n).2]) := rfl
theorem step_plan (k : Nat) : Kqb1.step (some w) (.plan k) = (some w, if w.lanes ≤ k then .num (-22) else .some_ (Kqb1.plan w k).length ((Kqb1.plan w k).flatMap fun p => [p.1, p.2])) := rfl
theorem step_worth (k : Nat) : Kqb1.step (some w) (.worth k) = (some w, if w.lanes ≤ k then .num (-22) else .num (Kqb1.laneValue w k)) := rfl
theorem step_total : Kqb1.step (some w) .total = (some w, .num (Kqb1.total w)) := rfl
theorem step_alone (z : Nat) : Kqb1.step (some w) (.alone z) = (some w, if 1 < z then .num (-22) else .num (Kqb1.alone w z)) := rfl
theorem step_fits (k a z : Nat) : Kqb1.step (some w) (.fits k a z) = (some w, if w.lanes ≤ k ∨ 1 < z then .num (-22) else .num (if Kqb1.fits w ⟨k, a, z⟩ then 1 else 0)) := rfl
theorem step_next (k a z : Nat) : Kqb1.step (some w) (.next k a z) = (some w, if w.lanes ≤ k ∨ 1 < z then .num (-22) else match Kqb1.next w k a z with | some i => .num i | none => .num (-33)) := rfl
theorem step_stamp (k a z : Nat) : Kqb1.step (some w) (.stamp k a z) = if w.lanes ≤ k ∨ 1 < z then (some w, .num (-22)) else if Kqb1.fits w ⟨k, a, z⟩ = false then (some w, .num (-16)) else if Kqb1.SHEETS ≤ Kqb1.count w.sheets then (some w, .num (-28)) else (some { w with sheets := Kqb1.putIn w.sheets ⟨k, a, z⟩ }, .num (Kqb1.slot w.sheets)) := rfl
theorem step_follow (k : Nat) : Kqb1.step (some w) (.follow k) = if w.lanes ≤ k then (some w, .num (-22)) else if Kqb1.SHEETS < Kqb1.count w.sheets + (Kqb1.plan w k).length then (some w, .num (-28)) else (some { w with sheets := (Kqb1.plan w k).foldl (fun l p => Kqb1.putIn l ⟨k, p.1, p.2⟩) w.sheets }, .num (Kqb1.plan w k).length) := rfl
theorem step_lift_none (i : Nat) (h : w.sheets.getD i none = none) : Kqb1.step (some w) (.lift i) = (some w, .num (-2)) := by
  show (match w.sheets.getD i none with | none => (some w, Kqb1.Ans.num (-2)) | some x => (some { w with sheets := w.sheets.set i none }, .num x.size)) = _
  rw [h]
theorem step_lift_some (i : Nat) {x : Sheet} (h : w.sheets.getD i none = some x) : Kqb1.step (some w) (.lift i) = (some { w with sheets := w.sheets.set i none }, .num x.size) := by
  show (match w.sheets.getD i none with | none => (some w, Kqb1.Ans.num (-2)) | some x => (some { w with sheets := w.sheets.set i none }, .num x.size)) = _
  rw [h]
theorem step_gain (f : Nat) : Kqb1.step (some w) (.gain f) = (some w, if (w.faults.getD f none).isNone then .num (-2) else .num (Kqb1.gain w f)) := rfl
theorem step_worst : Kqb1.step (some w) .worst = (some w, match Kqb1.worst w with | none => .num (-33) | some f => .some_ f [Kqb1.gain w f]) := rfl
theorem step_sheet_none (i : Nat) (h : w.sheets.getD i none = none) : Kqb1.step (some w) (.sheet i) = (some w, .num (-2)) := by
  show (some w, (match w.sheets.getD i none with | none => Kqb1.Ans.num (-2) | some x => .some_ x.size [x.lane, x.from_])) = _
  rw [h]
theorem step_sheet_some (i : Nat) {x : Sheet} (h : w.sheets.getD i none = some x) : Kqb1.step (some w) (.sheet i) = (some w, .some_ x.size [x.lane, x.from_]) := by
  show (some w, (match w.sheets.getD i none with | none => Kqb1.Ans.num (-2) | some x => .some_ x.size [x.lane, x.from_])) = _
  rw [h]
theorem step_metres : Kqb1.step (some w) .metres = (some w, .some_ (w.lanes * w.long : Nat) [Kqb1.places w (Kqb1.isFree w), Kqb1.places w (Kqb1.faulty w), Kqb1.places w (Kqb1.stamped w)]) := rfl
theorem step_state : Kqb1.step (some w) .state = (some w, .some_ w.long [w.lanes, Kqb1.count w.faults, Kqb1.count w.sheets]) := rfl
end

section
variable {P : Program} {w : World} {K : PySem.W.Frag} {mg : Str → Option Value} {base : Heap} {C f : Addr} {fd : FuncData}
/-! ### coat -/
theorem scCoat : FnScope ["web", "n"] ["web", "n"] (defScope (top 34)) := ⟨rfl, rfl, rfl, by decide +kernel, rfl, by decide +kernel, by decide +kernel⟩
theorem ok_coat (F : Fun K "coat" "coat" (top 34) f fd) (T : Txt K mg C) : FnOk P w K mg base CX0 1 f fd ["web", "n"] (spCmd1 C .coat) := by
  refine F.ok scCoat (fun vs H Q E h => ?_) (fun cdv A outer s H vs Q E hr h => ?_)
  · obtain ⟨p, w, n, rfl, _⟩ := h
    rfl
  · obtain ⟨p, w, n, rfl, hT, k'⟩ := h
    have hT' := hT
    obtain ⟨m, ⟨dx, tl, tw, df, ds, W⟩, R, G⟩ := hT'
    have nd := scCoat.nd
    refine ⟨_, (pss_cons (ps_if (PW.pt (pw_or (pt_cmpR op_eq (pv 1) pe_int (nomark _)) (pw_or1 (pt_cmpR op_gt (pe_op op_add (pe_fld (pv 0) rfl) (pv 1)) (pe_gint T.cMOST_PLACES) (nomark _)))))
      (pss_one (ps_ret (pe_lst (pa_cons (pe_gint T.cWRONG) pa_nil))))
      pss_nil)
      (pss_cons (ps_fldaug (pv 0) (pv 1) in_add)
      (pss_one (ps_ret (pe_lst (pa_cons (pe_fld (pv 0) rfl) pa_nil)))))), ?_⟩
    refine Det.seqN (Det.or (b := decide (n = 0)) (c := decide (80 < m.long + n)) (fun Q q => ⟨_, rfl, rfl, _, rfl, dq q (by rw [vint]; omega)⟩) (fun Q q => ⟨_, rfl, p, C, dx, _, _, rfl, W.obj, T.cl, T.nlong, rfl, _, rfl, _, _, rfl, rfl, _, _, rfl, rfl, _, rfl, dq q (by omega)⟩)) (fun h1 => ?_) (fun h1 => ?_)
    · have h1 : n = 0 ∨ Kqb1.LONG < w.long + n := by
        rw [R.long]
        simpa [Kqb1.LONG] using h1
      refine ⟨(by show 1 ≤ sizeLine; decide), fun a ha => ?_⟩
      exact k'.new (by rw [step_coat, if_pos h1]) hT (Same.refl H) ha rfl
    · have h1 : ¬ (n = 0 ∨ Kqb1.LONG < w.long + n) := by
        rw [R.long]
        simpa [Kqb1.LONG] using h1
      refine ⟨_, rfl, p, C, dx, _, _, rfl, W.obj, T.cl, T.nlong, rfl, _, rfl, _, _, rfl, rfl, dx, _, W.obj, (by show 6 < 1000; decide), ?_⟩
      have ew : putF "long" (.int ((m.long : Int) + (n : Int))) (wf m.lanes m.long tl tw df ds) = wf m.lanes (m.long + n) tl tw df ds := rfl
      rw [ew]
      refine ⟨_, rfl, p, C, dx, _, _, rfl, upd_same, T.cl, T.nlong, rfl, (by show 1 ≤ sizeLine; decide), fun a ha => ?_⟩
      have kp : ∀ b o, H b = some o → b ≠ p → (upd (upd H p (.ins C dx (wf m.lanes (m.long + n) tl tw df ds))) a (.lst [.int ((m.long + n : Nat) : Int)])) b = some o := fun b o e nb => by
        have e2 : (upd H p (.ins C dx (wf m.lanes (m.long + n) tl tw df ds))) b = some o := by rw [upd_ne nb]; exact e
        rw [upd_ne (ne_of_none e2 ha)]
        exact e2
      have nap : p ≠ a := fun z => by
        rw [← z, upd_same] at ha
        cases ha
      have es : Kqb1.step (some w) (.coat n) = (some { w with long := w.long + n }, .num (w.long + n : Nat)) := by rw [step_coat, if_neg h1]
      refine k' _ a { w with long := w.long + n } ⟨fun b xs e => kp b _ e (ne_of e W.obj (by intro z; cases z)), fun b o u e => kp b _ e (ne_of e W.obj (by intro z; cases z))⟩ (by rw [upd_ne nap.symm] at ha; exact ha) (by rw [es]) ⟨{ m with long := m.long + n }, ⟨dx, tl, tw, df, ds, ?_, kp _ _ W.len (ne_of W.len W.obj (by intro z; cases z)), kp _ _ W.wor (ne_of W.wor W.obj (by intro z; cases z)), ?_, ?_, W.ne⟩, ?_, ?_⟩ ?_
      · rw [upd_ne nap]
        exact upd_same
      · obtain ⟨fs, z⟩ := W.fau
        exact ⟨fs, z.eq, kp _ _ z.at_ (ne_of z.at_ W.obj (by intro z; cases z)), fun q hq => kp _ _ (z.tup q hq) (ne_of (z.tup q hq) W.obj (by intro z; cases z))⟩
      · obtain ⟨fs, z⟩ := W.she
        exact ⟨fs, z.eq, kp _ _ z.at_ (ne_of z.at_ W.obj (by intro z; cases z)), fun q hq => kp _ _ (z.tup q hq) (ne_of (z.tup q hq) W.obj (by intro z; cases z))⟩
      · exact ⟨R.lanes, by show w.long + n = m.long + n; rw [R.long], R.short, R.tall, R.worth0, R.worth1, R.faults, R.sheets⟩
      · rw [R.long] at h1
        unfold Kqb1.LONG at h1
        exact G.coated (by omega)
      · rw [upd_same, es, R.long]
        rfl
end
end Fw

end

section
set_option Elab.async false
set_option linter.all false
set_option maxRecDepth 100000
set_option maxHeartbeats 4000000
namespace Fw
open PySem PySem.Spec PyProof.Rows L2
open Kqb1 (Piece Sheet Web)
open Fc (M Rel Good Slots)
open Kqb1Neutral (tell)

theorem tNextS {t u : TS} {D : Ends} {rt : VK} {bk ct : L2.St → Hp → Prop} {σ : L2.St} {H : Hp} (h : tSeq t u D σ H) : tNext ⟨tSeq t u D, rt, bk, ct⟩ σ H := h
/-! ### a web whose dict has changed -/
section
variable {C p : Addr} {m : M} {dx tl tw df ds : Addr} {H H' : Hp}
theorem WebAt.setF (W : WebAt C H p m dx tl tw df ds) {l : List (Nat × Piece)} (h : DictAt triF H' df l) (kp : ∀ b o, H b = some o → b ≠ df → H' b = some o) : WebAt C H' p { m with faults := l } dx tl tw df ds := by
  obtain ⟨f0, z0⟩ := W.fau
  have no : ∀ {b : Addr} {o : HO}, H b = some o → o ≠ .dK (kvsOf f0) → H' b = some o := fun e d => kp _ _ e (ne_of e z0.at_ d)
  refine ⟨no W.obj (by intro z; cases z), no W.len (by intro z; cases z), no W.wor (by intro z; cases z), h, ?_, W.ne⟩
  obtain ⟨fs, z⟩ := W.she
  exact ⟨fs, z.eq, kp _ _ z.at_ W.ne.symm, fun q hq => no (z.tup q hq) (by intro z; cases z)⟩
theorem WebAt.setS (W : WebAt C H p m dx tl tw df ds) {l : List (Nat × Sheet)} (h : DictAt triS H' ds l) (kp : ∀ b o, H b = some o → b ≠ ds → H' b = some o) : WebAt C H' p { m with sheets := l } dx tl tw df ds := by
  obtain ⟨f0, z0⟩ := W.she
  have no : ∀ {b : Addr} {o : HO}, H b = some o → o ≠ .dK (kvsOf f0) → H' b = some o := fun e d => kp _ _ e (ne_of e z0.at_ d)
  refine ⟨no W.obj (by intro z; cases z), no W.len (by intro z; cases z), no W.wor (by intro z; cases z), ?_, h, W.ne⟩
  obtain ⟨fs, z⟩ := W.fau
  exact ⟨fs, z.eq, kp _ _ z.at_ W.ne, fun q hq => no (z.tup q hq) (by intro z; cases z)⟩
end
section
variable {α : Type} {tri : α → List V} {H H' : Hp} {d : Addr} {l : List (Nat × α)} {fs : List (Nat × α × Addr)}
theorem kvs_keys (fs : List (Nat × α × Addr)) : (kvsOf fs).map (·.1) = (fs.map (·.1)).map (fun n : Nat => (Sum.inl (n : Int) : Key)) := by
  unfold kvsOf
  rw [List.map_map, List.map_map]
  rfl
theorem DAt.keys (h : DAt tri H d l fs) : l.map (·.1) = fs.map (·.1) := by
  rw [h.eq, List.map_map]
  rfl
theorem valV_none {n : Nat} (h : n ∉ fs.map (·.1)) : valV (kvsOf fs) (Sum.inl (n : Int)) = none := by
  cases e : valV (kvsOf fs) (Sum.inl (n : Int)) with
  | none => rfl
  | some v =>
    have z := valV_in e
    rw [kvs_keys] at z
    exact absurd (key_in.mp z) h
theorem valV_some {n : Nat} (h : n ∈ fs.map (·.1)) : ∃ q ∈ fs, q.1 = n ∧ valV (kvsOf fs) (Sum.inl (n : Int)) = some (.ref q.2.2) := by
  induction fs with
  | nil => cases h
  | cons q fs ih =>
    by_cases e : q.1 = n
    · exact ⟨q, List.mem_cons_self .., e, valV_pos (show (Sum.inl (q.1 : Int) : Key) = Sum.inl (n : Int) by rw [e])⟩
    · have h' : n ∈ fs.map (·.1) := by
        rcases List.mem_cons.mp h with z | z
        · exact absurd z.symm e
        · exact z
      obtain ⟨r, hr, e2, e3⟩ := ih h'
      refine ⟨r, List.mem_cons_of_mem _ hr, e2, ?_⟩
      show valV ((Sum.inl (q.1 : Int), V.ref q.2.2) :: kvsOf fs) _ = _
      rw [valV_neg (by intro z; have z : (q.1 : Int) = n := Sum.inl.inj z; omega)]
      exact e3
/-- one more -/
theorem DAt.put (h : DAt tri H d l fs) {n : Nat} {x : α} {t : Addr} (hd : H' d = some (.dK (putK (kvsOf fs) (Sum.inl (n : Int)) (.ref t)))) (ht : H' t = some (.tup (tri x))) (kp : ∀ b o, H b = some o → b ≠ d → H' b = some o) (hn : n ∉ l.map (·.1)) : DictAt tri H' d (l ++ [(n, x)]) := by
  rw [h.keys] at hn
  refine ⟨fs ++ [(n, x, t)], ?_, ?_, fun q hq => ?_⟩
  · rw [h.eq, List.map_append]
    rfl
  · rw [hd, putK_new _ (valV_none hn)]
    unfold kvsOf
    rw [List.map_append]
    rfl
  · rcases List.mem_append.mp hq with z | z
    · exact kp _ _ (h.tup q z) (ne_of (h.tup q z) h.at_ (by intro y; cases y))
    · have e : q = (n, x, t) := by simpa using z
      subst e
      exact ht
/-- one less -/
theorem kvs_drop (fs : List (Nat × α × Addr)) (n : Nat) : dropK (kvsOf fs) (Sum.inl (n : Int)) = kvsOf (fs.filter fun q => decide (q.1 ≠ n)) := by
  unfold dropK kvsOf
  rw [List.filter_map]
  congr 1
  apply List.filter_congr
  intro q _
  show decide ((Sum.inl (q.1 : Int) : Key) ≠ Sum.inl (n : Int)) = _
  apply decide_eq_decide.mpr
  constructor
  · intro z e
    exact z (by rw [e])
  · intro z e
    exact z (by have e : (q.1 : Int) = n := Sum.inl.inj e; omega)
theorem DAt.drop (h : DAt tri H d l fs) {n : Nat} (hd : H' d = some (.dK (dropK (kvsOf fs) (Sum.inl (n : Int))))) (kp : ∀ b o, H b = some o → b ≠ d → H' b = some o) : DictAt tri H' d (l.filter fun q => decide (q.1 ≠ n)) := by
  refine ⟨fs.filter fun q => decide (q.1 ≠ n), ?_, by rw [hd, kvs_drop], fun q hq => ?_⟩
  · rw [h.eq, List.filter_map]
    rfl
  · have z := (List.mem_filter.mp hq).1
    exact kp _ _ (h.tup q z) (ne_of (h.tup q z) h.at_ (by intro y; cases y))
theorem DAt.len (h : DAt tri H d l fs) : (kvsOf fs).length = l.length := by
  unfold kvsOf
  rw [h.eq, List.length_map, List.length_map]
end
section
variable {P : Program} {w : World} {K : PySem.W.Frag} {mg : Str → Option Value} {base : Heap} {C f : Addr} {fd : FuncData}
/-! ### fault -/
theorem scFault : FnScope ["web", "lane", "begin", "end", "number"] ["web", "lane", "begin", "end"] (defScope (top 35)) := ⟨rfl, rfl, rfl, by decide +kernel, rfl, by decide +kernel, by decide +kernel⟩
theorem lies_eq {m : M} {w : Web} (R : Rel m w) (G : Good m) {k a b : Nat} (h : a < b) : ((List.range (b - a)).any fun i => Kqb1.stamped w k (a + i)) = (takenS m k).any (over a b) := by
  have e : (fun i => Kqb1.stamped w k (a + i)) = fun i => m.stamped k (a + i) := funext fun i => R.stamped k (a + i)
  rw [e, Fc.M.lies G k a b h]
  unfold takenS over
  rw [List.any_map, List.any_filter]
  rfl
theorem ok_fault (F : Fun K "fault" "fault" (top 35) f fd) (T : Txt K mg C) (G1 : Callee P w K mg base "sheet_lies_in" 2 pLies (spLies C)) (G2 : Callee P w K mg base "least_free" 1 ["numbered"] spLeast) : FnOk P w K mg base CX0 3 f fd ["web", "lane", "begin", "end"] (spCmd3 C .fault) := by
  refine F.ok scFault (fun vs H Q E h => ?_) (fun cdv A outer s H vs Q E hr h => ?_)
  · obtain ⟨p, w, k, a, b, rfl, _⟩ := h
    rfl
  · obtain ⟨p, w, k, a, b, rfl, hT, k'⟩ := h
    have hT' := hT
    obtain ⟨m, hW, R, G⟩ := hT'
    have hW' := hW
    obtain ⟨dx, tl, tw, df, ds, W⟩ := hW'
    have nd := scFault.nd
    have hu := hu_of hr
    refine ⟨_, (pss_cons (ps_if (PW.pt (pw_or (pt_cmpR op_ge (pv 1) (pe_fld (pv 0) rfl) (nomark _)) (pw_or (pt_cmpR op_le (pv 3) (pv 2) (nomark _)) (pw_or1 (pt_cmpR op_gt (pv 3) (pe_fld (pv 0) rfl) (nomark _))))))
      (pss_one (ps_ret (pe_lst (pa_cons (pe_gint T.cWRONG) pa_nil))))
      pss_nil)
      (pss_cons (ps_if (pt_val (pe_fn G1 hr (pa_cons (pv 0) (pa_cons (pv 1) (pa_cons (pv 2) (pa_cons (pv 3) pa_nil))))))
      (pss_one (ps_ret (pe_lst (pa_cons (pe_gint T.cTAKEN) pa_nil))))
      pss_nil)
      (pss_cons (ps_if (pt_cmpR op_ge (pe_callB call_lenD (by rfl) T.blen PySem.boot_len (pa_cons (pe_fld (pv 0) rfl) pa_nil)) (pe_gint T.cMOST_FAULTS) (nomark _))
      (pss_one (ps_ret (pe_lst (pa_cons (pe_gint T.cFULL) pa_nil))))
      pss_nil)
      (pss_cons (ps_set (i := 4) nd rfl (Or.inl rfl) (pe_fn G2 (hr.mono (by decide)) (pa_cons (pe_fld (pv 0) rfl) pa_nil)))
      (pss_cons (ps_dput hu (pe_fld (pv 0) rfl) (pv 4) (pe_tup (pa_cons (pv 1) (pa_cons (pv 2) (pa_cons (pv 3) pa_nil)))) rfl)
      (pss_one (ps_ret (pe_lst (pa_cons (pv 4) pa_nil))))))))), ?_⟩
    refine Det.seqN (Det.or (b := decide (m.lanes ≤ k)) (fun Q q => ⟨_, rfl, _, rfl, p, C, dx, _, _, rfl, W.obj, T.cl, T.nlanes, rfl, _, _, rfl, rfl, _, rfl, dq q (by omega)⟩) (Det.or (b := decide (b ≤ a)) (c := decide (m.long < b)) (fun Q q => ⟨_, rfl, _, rfl, _, _, rfl, rfl, _, rfl, dq q (by omega)⟩) (fun Q q => ⟨_, rfl, _, rfl, p, C, dx, _, _, rfl, W.obj, T.cl, T.nlong, rfl, _, _, rfl, rfl, _, rfl, dq q (by omega)⟩))) (fun h1 => ?_) (fun h1 => ?_)
    · have h1 : w.lanes ≤ k ∨ b ≤ a ∨ w.long < b := by
        rw [R.lanes, R.long]
        simpa using h1
      refine ⟨(by show 1 ≤ sizeLine; decide), fun x hx => ?_⟩
      exact k'.new (by rw [step_fault, if_pos h1]) hT (Same.refl H) hx rfl
    have h1 : ¬ (w.lanes ≤ k ∨ b ≤ a ∨ w.long < b) := by
      rw [R.lanes, R.long]
      simpa using h1
    have hab : a < b := by omega
    refine ⟨_, rfl, _, rfl, _, rfl, _, rfl, p, m, k, a, b, rfl, hW, G, fun H1 s1 => ⟨_, rfl, ?_⟩⟩
    refine ite2 (fun h2 => ?_) (fun h2 => ?_)
    · refine ⟨(by show 1 ≤ sizeLine; decide), fun x hx => ?_⟩
      exact k'.new (by rw [step_fault, if_neg h1, if_pos (by rw [lies_eq R G hab]; exact h2)]) hT s1 hx rfl
    have hnl : ¬ (List.range (b - a)).any (fun i => Kqb1.stamped w k (a + i)) = true := by rw [lies_eq R G hab]; exact h2
    have W1 := W.same s1
    obtain ⟨fs, hF⟩ := W1.fau
    refine tNextS ?_
    refine Det.seqN (b := decide (8 ≤ m.faults.length)) (fun Q q => ⟨_, rfl, p, C, dx, _, _, rfl, W1.obj, T.cl, T.nfaults, rfl, df, _, rfl, hF.at_, _, _, rfl, rfl, _, rfl, dq q (by rw [hF.len]; omega)⟩) (fun h3 => ?_) (fun h3 => ?_)
    · refine ⟨(by show 1 ≤ sizeLine; decide), fun x hx => ?_⟩
      exact k'.new (by rw [step_fault, if_neg h1, if_neg hnl, if_pos (by rw [← R.faults.len]; exact of_decide_eq_true h3)]) hT s1 hx rfl
    have h3 := of_decide_eq_false h3
    have es : Kqb1.step (some w) (.fault k a b) = (some { w with faults := Kqb1.putIn w.faults ⟨k, a, b⟩ }, .num (Kqb1.slot w.faults)) := by
      rw [step_fault, if_neg h1, if_neg hnl, if_neg (by rw [← R.faults.len]; exact h3)]
    refine ⟨_, rfl, p, C, dx, _, _, rfl, W1.obj, T.cl, T.nfaults, rfl, df, m.faults.map (·.1), _, w.faults.length, rfl, hF.at_, by rw [kvs_keys, hF.keys], fun n hn => R.faults.key_lt hn, fun n hn1 hn2 => ?_⟩
    have hslot := R.faults.least hn1 hn2
    refine ⟨_, rfl, _, rfl, _, rfl, (by show 3 ≤ sizeLine; decide), fun t ht => ?_⟩
    have u1 : Same H1 (upd H1 t (.tup [.int k, .int a, .int b])) := same_new ht
    have ut : (upd H1 t (.tup [.int k, .int a, .int b])) t = some (.tup (triF ⟨k, a, b⟩)) := upd_same
    have hl : (kvsOf fs).length ≤ 1000 := by rw [hF.len]; have := G.f8; omega
    refine ⟨_, rfl, p, C, dx, _, _, rfl, u1 _ _ W1.obj, T.cl, T.nfaults, rfl, _, rfl, df, _, rfl, DPut.k (k := Sum.inl (n : Int)) (u1 _ _ hF.at_) (small1000 hl), ?_⟩
    refine ⟨_, rfl, (by show 1 ≤ sizeLine; decide), fun x hx => ?_⟩
    have ud := u1 _ _ hF.at_
    generalize upd H1 t (.tup [.int k, .int a, .int b]) = H2 at u1 ut hx ud
    have nt : t ≠ df := ne_of ut ud (by intro z; cases z)
    have kp : ∀ c o, H2 c = some o → c ≠ df → (upd (upd H2 df (.dK (putK (kvsOf fs) (Sum.inl (n : Int)) (.ref t)))) x (.lst [.int n])) c = some o := fun c o e nc => by
      have e2 : (upd H2 df (.dK (putK (kvsOf fs) (Sum.inl (n : Int)) (.ref t)))) c = some o := by rw [upd_ne nc]; exact e
      rw [upd_ne (ne_of_none e2 hx)]
      exact e2
    have nx : df ≠ x := fun z => by
      rw [← z, upd_same] at hx
      cases hx
    have hF2 : DAt triF H2 df m.faults fs := ⟨hF.eq, ud, fun q hq => u1 _ _ (hF.tup q hq)⟩
    refine k' _ x { w with faults := Kqb1.putIn w.faults ⟨k, a, b⟩ } ⟨fun c xs e => kp c _ (u1 _ _ (s1 _ _ e)) (ne_of (s1 _ _ e) hF.at_ (by intro z; cases z)), fun c o u e => kp c _ (u1 _ _ (s1 _ _ e)) (ne_of (s1 _ _ e) hF.at_ (by intro z; cases z))⟩ (by rw [upd_ne nx.symm] at hx; exact s1.free (u1.free hx)) (by rw [es]) ⟨{ m with faults := m.faults ++ [(n, ⟨k, a, b⟩)] }, ⟨dx, tl, tw, df, ds, (W1.same u1).setF (hF2.put (by rw [upd_ne nx]; exact upd_same) (kp _ _ ut nt) kp hn1) kp⟩, ?_, ?_⟩ ?_
    · have z := R.faults.put ⟨k, a, b⟩
      rw [hslot] at z
      exact ⟨R.lanes, R.long, R.short, R.tall, R.worth0, R.worth1, z, R.sheets⟩
    · rw [R.lanes, R.long] at h1
      refine G.faulted (by omega) hab (by omega) (by omega) fun i h6 h7 => Bool.eq_false_iff.mpr fun y => hnl ?_
      rw [List.any_eq_true]
      refine ⟨i - a, List.mem_range.mpr (by omega), ?_⟩
      rw [show a + (i - a) = i by omega, R.stamped]
      exact y
    · rw [upd_same, es, hslot]
      rfl
end
end Fw

end

section
set_option Elab.async false
set_option linter.all false
set_option maxRecDepth 100000
set_option maxHeartbeats 4000000
namespace Fw
open PySem PySem.Spec PyProof.Rows L2
open Kqb1 (Piece Sheet Web)
open Fc (M Rel Good Slots)
open Kqb1Neutral (tell)
section
variable {P : Program} {w : World} {K : PySem.W.Frag} {mg : Str → Option Value} {base : Heap} {C f : Addr} {fd : FuncData}
/-! ### mend -/
theorem scMend : FnScope ["web", "f"] ["web", "f"] (defScope (top 36)) := ⟨rfl, rfl, rfl, by decide +kernel, rfl, by decide +kernel, by decide +kernel⟩
theorem ok_mend (F : Fun K "mend" "mend" (top 36) f fd) (T : Txt K mg C) : FnOk P w K mg base CX0 1 f fd ["web", "f"] (spCmd1 C .mend) := by
  refine F.ok scMend (fun vs H Q E h => ?_) (fun cdv A outer s H vs Q E hr h => ?_)
  · obtain ⟨p, w, n, rfl, _⟩ := h
    rfl
  · obtain ⟨p, w, n, rfl, hT, k'⟩ := h
    have hT' := hT
    obtain ⟨m, ⟨dx, tl, tw, df, ds, W⟩, R, G⟩ := hT'
    have nd := scMend.nd
    have hu := hu_of hr
    refine ⟨_, (pss_cons (ps_if (pt_cmp (pc_dnotin hu (pv 1) (pe_fld (pv 0) rfl)))
      (pss_one (ps_ret (pe_lst (pa_cons (pe_gint T.cNONE_SUCH) pa_nil))))
      pss_nil)
      (pss_cons (ps_expr (pe_dpop1 (pe_fld (pv 0) rfl) (pv 1) ⟨rfl, rfl, rfl, rfl⟩))
      (pss_one (ps_ret (pe_lst (pa_cons (pe_callB call_lenD (by rfl) T.blen PySem.boot_len (pa_cons (pe_fld (pv 0) rfl) pa_nil)) pa_nil)))))), ?_⟩
    obtain ⟨fs, hF⟩ := W.fau
    refine Det.seqN (b := !(valV (kvsOf fs) (Sum.inl (n : Int))).isSome) (fun Q q => ⟨_, rfl, _, rfl, p, C, dx, _, _, rfl, W.obj, T.cl, T.nfaults, rfl, df, _, rfl, DGet.k (k := Sum.inl (n : Int)) hF.at_, _, rfl, q⟩) (fun h1 => ?_) (fun h1 => ?_)
    · have hn : n ∉ m.faults.map (·.1) := fun hm => by
        rw [hF.keys] at hm
        obtain ⟨q, _, _, e⟩ := valV_some hm
        rw [e] at h1
        cases h1
      refine ⟨(by show 1 ≤ sizeLine; decide), fun x hx => ?_⟩
      exact k'.new (by rw [step_mend, if_pos (R.faults.getD_none.mpr hn)]) hT (Same.refl H) hx rfl
    have hm : n ∈ m.faults.map (·.1) := by
      refine Classical.byContradiction fun hn => ?_
      rw [valV_none (by rw [← hF.keys]; exact hn)] at h1
      cases h1
    obtain ⟨y, hy⟩ := R.faults.key.mp hm
    have es : Kqb1.step (some w) (.mend n) = (some (Kqb1.without w n), .num (Kqb1.count w.faults - 1 : Nat)) := by
      rw [step_mend, if_neg (fun z => (R.faults.getD_none.mp z) hm)]
    obtain ⟨q, hq, _, hv⟩ := valV_some (show n ∈ fs.map (·.1) by rw [← hF.keys]; exact hm)
    refine ⟨_, rfl, p, C, dx, _, _, rfl, W.obj, T.cl, T.nfaults, rfl, df, rfl, .inl ⟨_, .inl hF.at_⟩, _, rfl, _, Sum.inl (n : Int), _, hF.at_, rfl, hv, ?_⟩
    have np : p ≠ df := ne_of W.obj hF.at_ (by intro z; cases z)
    refine ⟨_, rfl, p, C, dx, _, _, rfl, (by rw [upd_ne np]; exact W.obj), T.cl, T.nfaults, rfl, df, _, rfl, upd_same, (by show 1 ≤ sizeLine; decide), fun x hx => ?_⟩
    have kp : ∀ c o, H c = some o → c ≠ df → (upd (upd H df (.dK (dropK (kvsOf fs) (Sum.inl (n : Int))))) x (.lst [.int ((dropK (kvsOf fs) (Sum.inl (n : Int))).length : Nat)])) c = some o := fun c o e nc => by
      have e2 : (upd H df (.dK (dropK (kvsOf fs) (Sum.inl (n : Int))))) c = some o := by rw [upd_ne nc]; exact e
      rw [upd_ne (ne_of_none e2 hx)]
      exact e2
    have nx : df ≠ x := fun z => by
      rw [← z, upd_same] at hx
      cases hx
    have Sd := R.faults.drop hy
    have hD2 : DictAt triF (upd (upd H df (.dK (dropK (kvsOf fs) (Sum.inl (n : Int))))) x (.lst [.int ((dropK (kvsOf fs) (Sum.inl (n : Int))).length : Nat)])) df (m.faults.filter fun q => decide (q.1 ≠ n)) := hF.drop (by rw [upd_ne nx]; exact upd_same) kp
    refine k' _ x (Kqb1.without w n) ⟨fun c xs e => kp c _ e (ne_of e hF.at_ (by intro z; cases z)), fun c o u e => kp c _ e (ne_of e hF.at_ (by intro z; cases z))⟩ (by rw [upd_ne nx.symm] at hx; exact hx) (by rw [es]) ⟨{ m with faults := m.faults.filter fun q => decide (q.1 ≠ n) }, ⟨dx, tl, tw, df, ds, W.setF hD2 kp⟩, ?_, ?_⟩ ?_
    · exact ⟨R.lanes, R.long, R.short, R.tall, R.worth0, R.worth1, Sd, R.sheets⟩
    · exact G.mended n
    · have hl := Sd.len
      have hc := Fc.count_set_none w.faults n hy
      have e : (dropK (kvsOf fs) (Sum.inl (n : Int))).length = Kqb1.count w.faults - 1 := by
        rw [kvs_drop]
        have e2 : (m.faults.filter fun q => decide (q.1 ≠ n)).length = (kvsOf (fs.filter fun q => decide (q.1 ≠ n))).length := by
          rw [hF.eq, List.filter_map, List.length_map]
          unfold kvsOf
          rw [List.length_map]
          rfl
        rw [← e2, hl]
        omega
      rw [upd_same, es, e]
      rfl
end
end Fw

end

section
set_option Elab.async false
set_option linter.all false
set_option maxRecDepth 100000
set_option maxHeartbeats 4000000
namespace Fw
open PySem PySem.Spec PyProof.Rows L2
open Kqb1 (Piece Sheet Web)
open Fc (M Rel Good)

theorem iteY {c A B : Prop} [Decidable c] (h : c) (x : A) : if decide c = true then A else B := by
  rw [decide_eq_true h]
  exact iteT x
theorem iteN {c A B : Prop} [Decidable c] (h : ¬ c) (x : B) : if decide c = true then A else B := by
  rw [decide_eq_false h]
  exact iteF x
theorem iteT' {b : Bool} {A B : Prop} (h : b = true) (x : A) : if b = true then A else B := by
  rw [if_pos h]
  exact x
theorem iteF' {b : Bool} {A B : Prop} (h : b = false) (x : B) : if b = true then A else B := by
  rw [h]
  exact iteF x
/-- all but dicts stays as it is, and nothing goes -/
structure Near (H H' : Hp) : Prop where
  keep : ∀ b o, H b = some o → (∀ kvs, o ≠ .dK kvs) → H' b = some o
  free : ∀ b, H' b = none → H b = none
theorem Near.of {H H' : Hp} (s : Same H H') : Near H H' := ⟨fun b o e _ => s b o e, fun b e => s.free e⟩
theorem Near.trans {H H1 H2 : Hp} (a : Near H H1) (b : Near H1 H2) : Near H H2 := ⟨fun c o e n => b.keep c o (a.keep c o e n) n, fun c e => a.free c (b.free c e)⟩
theorem Near.lists {H H' : Hp} (n : Near H H') : Lists H H' := ⟨fun b xs e => n.keep b _ e (by intro kvs z; cases z), fun b o u e => n.keep b _ e (by intro kvs z; cases z)⟩
section
variable {P : Program} {w : World} {K : PySem.W.Frag} {mg : Str → Option Value} {base : Heap} {C f : Addr} {fd : FuncData}
/-! ### worth_of_all -/
def spAll (C : Addr) : Sp := fun vs H Q _ => ∃ (p : Addr) (m : M), vs = [.ref p] ∧ Is C H p m ∧ Good m ∧ ∀ H' : Hp, Same H H' → Q (.int ((m.total : Nat) : Int)) H'
theorem scAll : FnScope ["web", "lane"] ["web"] (defScope (top 29)) := ⟨rfl, rfl, rfl, by decide +kernel, rfl, by decide +kernel, by decide +kernel⟩
theorem ok_all (F : Fun K "worth_of_all" "worth_of_all" (top 29) f fd) (T : Txt K mg C) (G1 : Callee P w K mg base "worth_of" 5 ["web", "lane"] (spNum C M.laneWorth)) : FnOk P w K mg base CX0 6 f fd ["web"] (spAll C) := by
  refine F.ok scAll (fun vs H Q E h => ?_) (fun cdv A outer s H vs Q E hr h => ?_)
  · obtain ⟨p, m, rfl, _⟩ := h
    rfl
  · obtain ⟨p, m, rfl, hW, G, k'⟩ := h
    have hW' := hW
    obtain ⟨dx, tl, tw, df, ds, W⟩ := hW'
    have nd := scAll.nd
    refine ⟨_, (pss_one (ps_ret (pe_callB (cr_sum rfl) (by rfl) T.bsum PyProof.Rows.boot_sum (pa_cons (pe_lc (own := [("lane", 1)]) (te := tCall (spNum C M.laneWorth) [] E0 (tCons (tVar 0) (tCons (tVar 1) tNil))) rfl nd (pi_range1 rfl T.brange (pa_cons (pe_fld (pv 0) rfl) pa_nil)) (blkOk_by (by rfl)) (fun _ _ _ _ _ => (pg_name (i := 1) nd rfl (Or.inl rfl))) (fun _ _ _ _ _ => pts_nil) (fun _ _ _ _ _ => (pe_fn G1 hr (pa_cons (pv 0) (pa_cons (pv 1) pa_nil))))) pa_nil)))), ?_⟩
    have hl3 := G.l3
    refine ⟨_, rfl, p, C, dx, _, _, rfl, W.obj, T.cl, T.nlanes, rfl, _, rfl, by omega, by omega, fun D hD => ?_⟩
    refine lc_range (lo := 0) (n := ((m.lanes : Nat) : Int).toNat) (fun i H' => H' D = some (.lst ((List.range i).map fun k => V.int ((m.laneWorth k : Nat) : Int))) ∧ Same H H') ⟨upd_same, same_new hD⟩ ?_ ?_
    · rintro i H' hi ⟨h1, h2⟩
      refine ⟨rfl, tYes_i ?_⟩
      refine iteT ?_
      refine ⟨_, rfl, _, rfl, p, m, i, (by rw [Int.zero_add]; rfl), hW.same h2, G, fun H2 s2 => ?_⟩
      refine ⟨_, s2 _ _ h1, ?_, ?_, same_upd (h2.trans s2) hD⟩
      · rw [List.length_map, List.length_range]
        exact small1000 (by omega)
      · rw [upd_same, List.range_succ, List.map_append]
        rfl
    · rintro H1 ⟨h1, h2⟩
      rw [Int.toNat_natCast] at h1
      refine ⟨D, (List.range m.lanes).map (fun k => ((m.laneWorth k : Nat) : Int)), rfl, SqL.of (by rw [h1, List.map_map]; rfl), ?_⟩
      rw [sum_cast m.laneWorth]
      exact k' _ h2
/-! ### cost_of -/
def spCost (C : Addr) : Sp := fun vs H Q _ => ∃ (p : Addr) (m : M) (n : Nat), vs = [.ref p, .int n] ∧ Is C H p m ∧ Good m ∧ n ∈ m.faults.map (·.1) ∧ ∀ H' : Hp, Same H H' → Q (.int (((m.mended n).total : Int) - (m.total : Int))) H'
theorem scCost : FnScope ["web", "f", "mended"] ["web", "f"] (defScope (top 30)) := ⟨rfl, rfl, rfl, by decide +kernel, rfl, by decide +kernel, by decide +kernel⟩
theorem ok_cost (F : Fun K "cost_of" "cost_of" (top 30) f fd) (T : Txt K mg C) (G1 : Maker P w K mg base "Web" C 1 ["self", "lanes", "long", "lengths", "worths"] (spInit C)) (G2 : Callee P w K mg base "worth_of_all" 6 ["web"] (spAll C)) : FnOk P w K mg base CX0 7 f fd ["web", "f"] (spCost C) := by
  refine F.ok scCost (fun vs H Q E h => ?_) (fun cdv A outer s H vs Q E hr h => ?_)
  · obtain ⟨p, m, n, rfl, _⟩ := h
    rfl
  · obtain ⟨p, m, n, rfl, hW, G, hn, k'⟩ := h
    have hW' := hW
    obtain ⟨dx, tl, tw, df, ds, W⟩ := hW'
    have nd := scCost.nd
    refine ⟨_, (pss_cons (ps_set (i := 2) nd rfl (Or.inl rfl) (pe_mk G1 (hr.mono (by decide)) (pa_cons (pe_fld (pv 0) rfl) (pa_cons (pe_fld (pv 0) rfl) (pa_cons (pe_fld (pv 0) rfl) (pa_cons (pe_fld (pv 0) rfl) pa_nil))))))
      (pss_cons (ps_fld (pv 2) (pe_callTy cr_dictD (by rfl) T.bdict PyProof.Rows.boot_dict (pa_cons (pe_fld (pv 0) rfl) pa_nil)) rfl)
      (pss_cons (ps_expr (pe_dpop1 (pe_fld (pv 2) rfl) (pv 1) ⟨rfl, rfl, rfl, rfl⟩))
      (pss_cons (ps_fld (pv 2) (pe_callTy cr_dictD (by rfl) T.bdict PyProof.Rows.boot_dict (pa_cons (pe_fld (pv 0) rfl) pa_nil)) rfl)
      (pss_one (ps_ret (pe_op op_sub (pe_fn G2 hr (pa_cons (pv 2) pa_nil)) (pe_fn G2 hr (pa_cons (pv 0) pa_nil))))))))), ?_⟩
    obtain ⟨fs, hF⟩ := W.fau
    obtain ⟨ss, hS⟩ := W.she
    obtain ⟨q, hq, _, hv⟩ := valV_some (show n ∈ fs.map (·.1) by rw [← hF.keys]; exact hn)
    refine ⟨_, rfl, p, C, dx, _, _, rfl, W.obj, T.cl, T.nlanes, rfl, ?_⟩
    refine ⟨_, rfl, p, C, dx, _, _, rfl, W.obj, T.cl, T.nlong, rfl, ?_⟩
    refine ⟨_, rfl, p, C, dx, _, _, rfl, W.obj, T.cl, T.nlengths, rfl, ?_⟩
    refine ⟨_, rfl, p, C, dx, _, _, rfl, W.obj, T.cl, T.nworths, rfl, ?_⟩
    intro x dx' hx hdx hne
    refine ⟨x, dx', tl, tw, m.lanes, m.long, rfl, upd_same, fun H1 df1 ds1 hx1 _ _ _ h5 => ⟨rfl, ?_⟩⟩
    have S1 : Same H H1 := Same.made hx hdx fun b o e hb => h5 b o e hb
    refine ⟨_, rfl, p, C, dx, _, _, rfl, S1 _ _ W.obj, T.cl, T.nfaults, rfl, df, _, rfl, S1 _ _ hF.at_, fun d2 hd2 => ?_⟩
    have nd2 : H d2 = none := S1.free hd2
    have nx2 : x ≠ d2 := ne_of_none hx1 hd2
    have S2 : Same H (upd H1 d2 (.dK (kvsOf fs))) := same_upd S1 nd2
    have hx2 : (upd H1 d2 (.dK (kvsOf fs))) x = some (.ins C dx' (wf m.lanes m.long tl tw df1 ds1)) := by rw [upd_ne nx2]; exact hx1
    have hd2' : (upd H1 d2 (.dK (kvsOf fs))) d2 = some (.dK (kvsOf fs)) := upd_same
    generalize upd H1 d2 (.dK (kvsOf fs)) = H2 at S2 hx2 hd2'
    refine ⟨_, rfl, x, C, dx', _, rfl, hx2, T.cl, T.nfaults, (by show 6 < 1000; decide), ?_⟩
    have ew : putF "faults" (.ref d2) (wf m.lanes m.long tl tw df1 ds1) = wf m.lanes m.long tl tw d2 ds1 := rfl
    rw [ew]
    have S3 : Same H (upd H2 x (.ins C dx' (wf m.lanes m.long tl tw d2 ds1))) := same_upd S2 hx
    have hx3 : (upd H2 x (.ins C dx' (wf m.lanes m.long tl tw d2 ds1))) x = some (.ins C dx' (wf m.lanes m.long tl tw d2 ds1)) := upd_same
    have hd3 : (upd H2 x (.ins C dx' (wf m.lanes m.long tl tw d2 ds1))) d2 = some (.dK (kvsOf fs)) := by rw [upd_ne nx2.symm]; exact hd2'
    generalize upd H2 x (.ins C dx' (wf m.lanes m.long tl tw d2 ds1)) = H3 at S3 hx3 hd3
    refine ⟨_, rfl, x, C, dx', _, _, rfl, hx3, T.cl, T.nfaults, rfl, d2, rfl, .inl ⟨_, .inl hd3⟩, _, rfl, _, Sum.inl (n : Int), _, hd3, rfl, hv, ?_⟩
    have S4 : Same H (upd H3 d2 (.dK (dropK (kvsOf fs) (Sum.inl (n : Int))))) := same_upd S3 nd2
    have hx4 : (upd H3 d2 (.dK (dropK (kvsOf fs) (Sum.inl (n : Int))))) x = some (.ins C dx' (wf m.lanes m.long tl tw d2 ds1)) := by rw [upd_ne nx2]; exact hx3
    have hd4 : (upd H3 d2 (.dK (dropK (kvsOf fs) (Sum.inl (n : Int))))) d2 = some (.dK (dropK (kvsOf fs) (Sum.inl (n : Int)))) := upd_same
    generalize upd H3 d2 (.dK (dropK (kvsOf fs) (Sum.inl (n : Int)))) = H4 at S4 hx4 hd4
    refine ⟨_, rfl, p, C, dx, _, _, rfl, S4 _ _ W.obj, T.cl, T.nsheets, rfl, ds, _, rfl, S4 _ _ hS.at_, fun d3 hd3' => ?_⟩
    have nd3 : H d3 = none := S4.free hd3'
    have nx3 : x ≠ d3 := ne_of_none hx4 hd3'
    have n23 : d2 ≠ d3 := ne_of_none hd4 hd3'
    have S5 : Same H (upd H4 d3 (.dK (kvsOf ss))) := same_upd S4 nd3
    have hx5 : (upd H4 d3 (.dK (kvsOf ss))) x = some (.ins C dx' (wf m.lanes m.long tl tw d2 ds1)) := by rw [upd_ne nx3]; exact hx4
    have hd5 : (upd H4 d3 (.dK (kvsOf ss))) d2 = some (.dK (dropK (kvsOf fs) (Sum.inl (n : Int)))) := by rw [upd_ne n23]; exact hd4
    have he5 : (upd H4 d3 (.dK (kvsOf ss))) d3 = some (.dK (kvsOf ss)) := upd_same
    generalize upd H4 d3 (.dK (kvsOf ss)) = H5 at S5 hx5 hd5 he5
    refine ⟨_, rfl, x, C, dx', _, rfl, hx5, T.cl, T.nsheets, (by show 6 < 1000; decide), ?_⟩
    have ew2 : putF "sheets" (.ref d3) (wf m.lanes m.long tl tw d2 ds1) = wf m.lanes m.long tl tw d2 d3 := rfl
    rw [ew2]
    have S6 : Same H (upd H5 x (.ins C dx' (wf m.lanes m.long tl tw d2 d3))) := same_upd S5 hx
    have hx6 : (upd H5 x (.ins C dx' (wf m.lanes m.long tl tw d2 d3))) x = some (.ins C dx' (wf m.lanes m.long tl tw d2 d3)) := upd_same
    have hd6 : (upd H5 x (.ins C dx' (wf m.lanes m.long tl tw d2 d3))) d2 = some (.dK (dropK (kvsOf fs) (Sum.inl (n : Int)))) := by rw [upd_ne nx2.symm]; exact hd5
    have he6 : (upd H5 x (.ins C dx' (wf m.lanes m.long tl tw d2 d3))) d3 = some (.dK (kvsOf ss)) := by rw [upd_ne nx3.symm]; exact he5
    generalize upd H5 x (.ins C dx' (wf m.lanes m.long tl tw d2 d3)) = H6 at S6 hx6 hd6 he6
    have W6 : Is C H6 x (m.mended n) := by
      refine ⟨dx', tl, tw, d2, d3, hx6, S6 _ _ W.len, S6 _ _ W.wor, ⟨fs.filter fun q => decide (q.1 ≠ n), ?_, ?_, fun q hq => S6 _ _ (hF.tup q (List.mem_filter.mp hq).1)⟩, ⟨ss, hS.eq, he6, fun q hq => S6 _ _ (hS.tup q hq)⟩, n23⟩
      · show m.faults.filter (fun q => decide (q.1 ≠ n)) = _
        rw [hF.eq, List.filter_map]
        rfl
      · rw [hd6, kvs_drop]
    refine ⟨_, rfl, x, m.mended n, rfl, W6, G.mended n, fun H7 S7 => ?_⟩
    refine ⟨_, rfl, p, m, rfl, hW.same (S6.trans S7), G, fun H8 S8 => ?_⟩
    exact ⟨_, _, rfl, rfl, k' _ ((S6.trans S7).trans S8)⟩
/-! ### first_fit -/
abbrev pFit : List Str := ["web", "lane", "begin", "size"]
def spFit (C : Addr) : Sp := fun vs H Q _ => ∃ (p : Addr) (m : M) (k a z : Nat), vs = [.ref p, .int k, .int a, .int z] ∧ Is C H p m ∧ Good m ∧ z ≤ 1 ∧
  (∀ (j : Nat) (H' : Hp), a ≤ j → m.fits k j z = true → (∀ i, a ≤ i → i < j → m.fits k i z = false) → Same H H' → Q (.int j) H') ∧ (∀ H' : Hp, (∀ i, a ≤ i → m.fits k i z = false) → Same H H' → Q .non H')
theorem scFit : FnScope ["web", "lane", "begin", "size", "stretch_begin", "stretch_end", "place"] pFit (defScope (top 31)) := ⟨rfl, rfl, rfl, by decide +kernel, rfl, by decide +kernel, by decide +kernel⟩
theorem ok_fit (F : Fun K "first_fit" "first_fit" (top 31) f fd) (T : Txt K mg C) (G1 : Callee P w K mg base "stretches_of" 3 ["web", "lane"] (spPairs C M.stretches)) : FnOk P w K mg base CX0 4 f fd pFit (spFit C) := by
  refine F.ok scFit (fun vs H Q E h => ?_) (fun cdv A outer s H vs Q E hr h => ?_)
  · obtain ⟨p, m, k, a, z, rfl, _⟩ := h
    rfl
  · obtain ⟨p, m, k, a, z, rfl, hW, G, hz, k1, k2⟩ := h
    have nd := scFit.nd
    refine ⟨_, (pss_cons (ps_for PassesOwn.never rfl (pi_list (pe_fn G1 hr (pa_cons (pv 0) (pa_cons (pv 1) pa_nil)))) (pg_tup rfl (pgs_cons (pg_name (i := 4) nd rfl (Or.inl rfl)) (pgs_cons (pg_name (i := 5) nd rfl (Or.inl rfl)) pgs_nil)))
      (pss_cons (ps_set (i := 6) nd rfl (Or.inl rfl) (pe_callB (call_max2 rfl) (by rfl) T.bmax PyProof.Rows.boot_max (pa_cons (pv 2) (pa_cons (pv 4) pa_nil))))
        (pss_one (ps_if (pt_cmpR op_le (pe_op op_add (pv 6) (pe_ix ix_tup (pe_fld (pv 0) rfl) (pv 3) (fun _ _ => rfl))) (pv 5) (nomark _))
        (pss_one (ps_ret (pv 6)))
        pss_nil))))
      (pss_one (ps_ret pe_non))), ?_⟩
    refine ⟨_, rfl, _, rfl, p, m, k, rfl, hW, G, fun H1 b s1 ⟨rs, ps⟩ => ?_⟩
    obtain ⟨dx, tl, tw, df, ds, W1⟩ := hW.same s1
    have hsz := G.size_pos z
    refine ⟨b, rfl, ⟨_, SqL.of ps.at_⟩, for_list (K := K) (a := b) (xs := rs.map fun r => V.ref r.1) (fun i σ H' => (∃ v4 v5 v6, σ = [some (.ref p), some (.int k), some (.int a), some (.int z), v4, v5, v6]) ∧ H' = H1 ∧ ∀ q ∈ (m.stretches k).take i, ¬ (Fc.up a q.1 + m.size z ≤ q.2))
      ⟨⟨none, none, none, rfl⟩, rfl, fun q hq => by simp at hq⟩ (fun i σ H' _ ⟨_, e, _⟩ => by rw [e]; exact SqL.of ps.at_) ?_ ?_⟩
    · rintro i x σ H' hx ⟨⟨v4, v5, v6, rfl⟩, rfl, hb⟩
      obtain ⟨r, hr1, rfl⟩ := map_at hx
      have hm := mem_of_at hr1
      have hat : (m.stretches k)[i]? = some r.2 := by rw [ps.eq, List.getElem?_map, hr1]; rfl
      refine ⟨_, _, rfl, SqT.of (ps.tup r hm), rfl, _, _, rfl, _, _, rfl, rfl, ?_⟩
      refine ⟨_, rfl, _, rfl, _, _, rfl, ?_⟩
      have eu : (if (r.2.1 : Int) > (a : Int) then (r.2.1 : Int) else (a : Int)) = ((Fc.up a r.2.1 : Nat) : Int) := by
        unfold Fc.up
        by_cases c : a < r.2.1
        · rw [if_pos c, if_pos (by omega)]
        · rw [if_neg c, if_neg (by omega)]
      rw [eu]
      dsimp only [gName]
      refine Det.ifs (b := decide (Fc.up a r.2.1 + m.size z ≤ r.2.2)) (fun Q q => ⟨_, rfl, _, rfl, p, C, dx, _, _, rfl, W1.obj, T.cl, T.nlengths, rfl, _, rfl, tl, _, _, _, rfl, rfl, SqT.of W1.len, at2 hz, _, _, rfl, rfl, _, rfl, _, _, rfl, rfl, _, rfl, dq q (by show Fc.up a r.2.1 + m.size z ≤ r.2.2 ↔ ((Fc.up a r.2.1 : Nat) : Int) + ((m.size z : Nat) : Int) ≤ ((r.2.2 : Nat) : Int); omega)⟩) (fun h1 => ?_) (fun h1 => ?_)
      · obtain ⟨f1, f2⟩ := Fc.M.fit_here G hat hb (of_decide_eq_true h1)
        exact ⟨_, rfl, k1 _ _ (Fc.up_ge a r.2.1).1 f1 f2 s1⟩
      · refine ⟨⟨_, _, _, rfl⟩, rfl, fun q hq => ?_⟩
        rw [take_snoc hat] at hq
        rcases List.mem_append.mp hq with y | y
        · exact hb q y
        · have e : q = r.2 := by simpa using y
          rw [e]
          exact of_decide_eq_false h1
    · rintro σ H' ⟨⟨v4, v5, v6, rfl⟩, rfl, hb⟩
      rw [List.length_map, ps.len, List.take_length] at hb
      exact k2 _ (fun i hi => Fc.M.fit_none G hb i hi) s1
/-! ### lay_sheet -/
def spLay (C : Addr) : Sp := fun vs H Q _ => ∃ (p : Addr) (m : M) (k a z B : Nat), vs = [.ref p, .int k, .int a, .int z] ∧ Is C H p m ∧ m.sheets.length ≤ 1000 ∧ (∀ n ∈ m.sheets.map (·.1), n < B) ∧
  ∀ (n : Nat) (H' : Hp), n ∉ m.sheets.map (·.1) → (∀ i, i < n → i ∈ m.sheets.map (·.1)) → Is C H' p (m.stampedWith n ⟨k, a, z⟩) → Near H H' → Q (.int n) H'
theorem scLay : FnScope ["web", "lane", "begin", "size", "number"] pFit (defScope (top 32)) := ⟨rfl, rfl, rfl, by decide +kernel, rfl, by decide +kernel, by decide +kernel⟩
theorem ok_lay (F : Fun K "lay_sheet" "lay_sheet" (top 32) f fd) (T : Txt K mg C) (G1 : Callee P w K mg base "least_free" 1 ["numbered"] spLeast) : FnOk P w K mg base CX0 2 f fd pFit (spLay C) := by
  refine F.ok scLay (fun vs H Q E h => ?_) (fun cdv A outer s H vs Q E hr h => ?_)
  · obtain ⟨p, m, k, a, z, B, rfl, _⟩ := h
    rfl
  · obtain ⟨p, m, k, a, z, B, rfl, ⟨dx, tl, tw, df, ds, W⟩, hlen, hB, k'⟩ := h
    have nd := scLay.nd
    have hu := hu_of hr
    refine ⟨_, (pss_cons (ps_set (i := 4) nd rfl (Or.inl rfl) (pe_fn G1 hr (pa_cons (pe_fld (pv 0) rfl) pa_nil)))
      (pss_cons (ps_dput hu (pe_fld (pv 0) rfl) (pv 4) (pe_tup (pa_cons (pv 1) (pa_cons (pv 2) (pa_cons (pv 3) pa_nil)))) rfl)
      (pss_one (ps_ret (pv 4))))), ?_⟩
    obtain ⟨ss, hS⟩ := W.she
    refine ⟨_, rfl, p, C, dx, _, _, rfl, W.obj, T.cl, T.nsheets, rfl, ds, m.sheets.map (·.1), _, B, rfl, hS.at_, by rw [kvs_keys, hS.keys], hB, fun n hn1 hn2 => ?_⟩
    refine ⟨_, rfl, _, rfl, _, rfl, (by show 3 ≤ sizeLine; decide), fun t ht => ?_⟩
    have u1 : Same H (upd H t (.tup [.int k, .int a, .int z])) := same_new ht
    have ut : (upd H t (.tup [.int k, .int a, .int z])) t = some (.tup (triS ⟨k, a, z⟩)) := upd_same
    have hl : (kvsOf ss).length ≤ 1000 := by rw [hS.len]; exact hlen
    generalize upd H t (.tup [.int k, .int a, .int z]) = H1 at u1 ut
    refine ⟨_, rfl, p, C, dx, _, _, rfl, u1 _ _ W.obj, T.cl, T.nsheets, rfl, _, rfl, ds, _, rfl, DPut.k (k := Sum.inl (n : Int)) (u1 _ _ hS.at_) (small1000 hl), ?_⟩
    have kp : ∀ c o, H1 c = some o → c ≠ ds → (upd H1 ds (.dK (putK (kvsOf ss) (Sum.inl (n : Int)) (.ref t)))) c = some o := fun c o e nc => by
      rw [upd_ne nc]
      exact e
    have nt : t ≠ ds := ne_of ut (u1 _ _ hS.at_) (by intro z; cases z)
    have hS1 : DAt triS H1 ds m.sheets ss := ⟨hS.eq, u1 _ _ hS.at_, fun q hq => u1 _ _ (hS.tup q hq)⟩
    refine ⟨_, rfl, k' n _ hn1 hn2 ⟨dx, tl, tw, df, ds, (W.same u1).setS (hS1.put (x := (⟨k, a, z⟩ : Sheet)) upd_same (kp _ _ ut nt) kp hn1) kp⟩ ⟨fun b o e no => ?_, fun b e => ?_⟩⟩
    · exact kp _ _ (u1 _ _ e) (ne_of (u1 _ _ e) hS1.at_ (no _))
    · by_cases c : b = ds
      · rw [c, upd_same] at e
        cases e
      · rw [upd_ne c] at e
        exact u1.free e
end
end Fw

end

section
set_option Elab.async false
set_option linter.all false
set_option maxRecDepth 100000
set_option maxHeartbeats 4000000
namespace Fw
open PySem PySem.Spec PyProof.Rows L2
open Kqb1 (Piece Sheet Web)
open Fc (M Rel Good Slots)
open Kqb1Neutral (tell)
theorem flat_tell (l : List (Nat × Nat)) : ((l.flatMap fun p => [p.1, p.2]).map fun x : Nat => (x : Int)) = flat2 l := by
  unfold flat2
  rw [List.map_flatMap]
  rfl
section
variable {P : Program} {w : World} {K : PySem.W.Frag} {mg : Str → Option Value} {base : Heap} {C f : Addr} {fd : FuncData}
/-! ### stretches, plan: the pairs of a lane, counted -/
theorem scS2 : FnScope ["web", "lane"] ["web", "lane"] (defScope (top 37)) := ⟨rfl, rfl, rfl, by decide +kernel, rfl, by decide +kernel, by decide +kernel⟩
theorem ok_stretches (F : Fun K "stretches" "stretches" (top 37) f fd) (T : Txt K mg C) (G1 : Callee P w K mg base "counted_pairs" 1 ["pairs"] spCounted) (G2 : Callee P w K mg base "stretches_of" 3 ["web", "lane"] (spPairs C M.stretches)) : FnOk P w K mg base CX0 4 f fd ["web", "lane"] (spCmd1 C .stretches) := by
  refine F.ok scS2 (fun vs H Q E h => ?_) (fun cdv A outer s H vs Q E hr h => ?_)
  · obtain ⟨p, w, k, rfl, _⟩ := h
    rfl
  · obtain ⟨p, w, k, rfl, hT, k'⟩ := h
    have hT' := hT
    obtain ⟨m, hW, R, G⟩ := hT'
    have hW' := hW
    obtain ⟨dx, tl, tw, df, ds, W⟩ := hW'
    refine ⟨_, (pss_cons (ps_if (pt_cmpR op_ge (pv 1) (pe_fld (pv 0) rfl) (nomark _))
      (pss_one (ps_ret (pe_lst (pa_cons (pe_gint T.cWRONG) pa_nil))))
      pss_nil)
      (pss_one (ps_ret (pe_fn G1 (hr.mono (by decide)) (pa_cons (pe_fn G2 hr (pa_cons (pv 0) (pa_cons (pv 1) pa_nil))) pa_nil))))), ?_⟩
    refine Det.seqN (b := decide (m.lanes ≤ k)) (fun Q q => ⟨_, rfl, _, rfl, p, C, dx, _, _, rfl, W.obj, T.cl, T.nlanes, rfl, _, _, rfl, rfl, _, rfl, dq q (by omega)⟩) (fun h1 => ?_) (fun h1 => ?_)
    · refine ⟨(by show 1 ≤ sizeLine; decide), fun x hx => ?_⟩
      exact k'.new (by rw [step_stretches, if_pos (by rw [R.lanes]; exact of_decide_eq_true h1)]) hT (Same.refl H) hx rfl
    have h1 := of_decide_eq_false h1
    refine ⟨_, rfl, _, rfl, p, m, k, rfl, hW, G, fun H1 a s1 hp => ?_⟩
    refine ⟨a, _, rfl, hp, Nat.le_trans (Fc.M.stretches_len m k) (by have := G.n80; omega), fun H2 b s2 hn hb => ?_⟩
    refine k'.stay (by rw [step_stretches, if_neg (by rw [R.lanes]; exact h1), R.stretches]) hT (s1.trans s2) (s1.free hn) ?_
    rw [hb]
    show _ = some (HO.lst (((_ : Int) :: _).map V.int))
    rw [flat_tell]
theorem scP2 : FnScope ["web", "lane"] ["web", "lane"] (defScope (top 39)) := ⟨rfl, rfl, rfl, by decide +kernel, rfl, by decide +kernel, by decide +kernel⟩
theorem ok_plan (F : Fun K "plan" "plan" (top 39) f fd) (T : Txt K mg C) (G1 : Callee P w K mg base "counted_pairs" 1 ["pairs"] spCounted) (G2 : Callee P w K mg base "plan_of" 4 ["web", "lane"] (spPairs C M.plan)) : FnOk P w K mg base CX0 5 f fd ["web", "lane"] (spCmd1 C .plan) := by
  refine F.ok scP2 (fun vs H Q E h => ?_) (fun cdv A outer s H vs Q E hr h => ?_)
  · obtain ⟨p, w, k, rfl, _⟩ := h
    rfl
  · obtain ⟨p, w, k, rfl, hT, k'⟩ := h
    have hT' := hT
    obtain ⟨m, hW, R, G⟩ := hT'
    have hW' := hW
    obtain ⟨dx, tl, tw, df, ds, W⟩ := hW'
    refine ⟨_, (pss_cons (ps_if (pt_cmpR op_ge (pv 1) (pe_fld (pv 0) rfl) (nomark _))
      (pss_one (ps_ret (pe_lst (pa_cons (pe_gint T.cWRONG) pa_nil))))
      pss_nil)
      (pss_one (ps_ret (pe_fn G1 (hr.mono (by decide)) (pa_cons (pe_fn G2 hr (pa_cons (pv 0) (pa_cons (pv 1) pa_nil))) pa_nil))))), ?_⟩
    refine Det.seqN (b := decide (m.lanes ≤ k)) (fun Q q => ⟨_, rfl, _, rfl, p, C, dx, _, _, rfl, W.obj, T.cl, T.nlanes, rfl, _, _, rfl, rfl, _, rfl, dq q (by omega)⟩) (fun h1 => ?_) (fun h1 => ?_)
    · refine ⟨(by show 1 ≤ sizeLine; decide), fun x hx => ?_⟩
      exact k'.new (by rw [step_plan, if_pos (by rw [R.lanes]; exact of_decide_eq_true h1)]) hT (Same.refl H) hx rfl
    have h1 := of_decide_eq_false h1
    refine ⟨_, rfl, _, rfl, p, m, k, rfl, hW, G, fun H1 a s1 hp => ?_⟩
    refine ⟨a, _, rfl, hp, Fc.M.plan_len G k, fun H2 b s2 hn hb => ?_⟩
    refine k'.stay (by rw [step_plan, if_neg (by rw [R.lanes]; exact h1), R.plan]) hT (s1.trans s2) (s1.free hn) ?_
    rw [hb]
    show _ = some (HO.lst (((_ : Int) :: _).map V.int))
    rw [flat_tell]
/-! ### best -/
theorem scB2 : FnScope ["web", "s"] ["web", "s"] (defScope (top 38)) := ⟨rfl, rfl, rfl, by decide +kernel, rfl, by decide +kernel, by decide +kernel⟩
theorem ok_best (F : Fun K "best" "best" (top 38) f fd) (T : Txt K mg C) (G1 : Callee P w K mg base "best_of" 1 ["web", "room"] (spBest C)) : FnOk P w K mg base CX0 2 f fd ["web", "s"] (spCmd1 C .best) := by
  refine F.ok scB2 (fun vs H Q E h => ?_) (fun cdv A outer s H vs Q E hr h => ?_)
  · obtain ⟨p, w, n, rfl, _⟩ := h
    rfl
  · obtain ⟨p, w, n, rfl, hT, k'⟩ := h
    have hT' := hT
    obtain ⟨m, hW, R, G⟩ := hT'
    refine ⟨_, (pss_cons (ps_if (pt_cmpR op_gt (pv 1) (pe_gint T.cMOST_PLACES) (nomark _))
      (pss_one (ps_ret (pe_lst (pa_cons (pe_gint T.cWRONG) pa_nil))))
      pss_nil)
      (pss_one (ps_ret (pe_callTy call_list_of (by rfl) T.blist PyProof.Rows.boot_list (pa_cons (pe_fn G1 hr (pa_cons (pv 0) (pa_cons (pv 1) pa_nil))) pa_nil))))), ?_⟩
    refine Det.seqN (b := decide (80 < n)) (fun Q q => ⟨_, rfl, _, _, rfl, rfl, _, rfl, dq q (by omega)⟩) (fun h1 => ?_) (fun h1 => ?_)
    · refine ⟨(by show 1 ≤ sizeLine; decide), fun x hx => ?_⟩
      exact k'.new (by rw [step_best, if_pos (show Kqb1.LONG < n from of_decide_eq_true h1)]) hT (Same.refl H) hx rfl
    have h1 := of_decide_eq_false h1
    refine ⟨_, rfl, _, rfl, p, m, n, rfl, hW, G, by omega, fun H1 a s1 ha => ?_⟩
    refine ⟨a, _, rfl, .inr (SqT.of ha), fun x hx => ?_⟩
    refine k'.new (by rw [step_best, if_neg (show ¬ Kqb1.LONG < n from h1), R.best1, R.best2, R.best3]) hT s1 hx rfl
/-! ### worth -/
theorem scW2 : FnScope ["web", "lane"] ["web", "lane"] (defScope (top 40)) := ⟨rfl, rfl, rfl, by decide +kernel, rfl, by decide +kernel, by decide +kernel⟩
theorem ok_worth (F : Fun K "worth" "worth" (top 40) f fd) (T : Txt K mg C) (G1 : Callee P w K mg base "worth_of" 5 ["web", "lane"] (spNum C M.laneWorth)) : FnOk P w K mg base CX0 6 f fd ["web", "lane"] (spCmd1 C .worth) := by
  refine F.ok scW2 (fun vs H Q E h => ?_) (fun cdv A outer s H vs Q E hr h => ?_)
  · obtain ⟨p, w, k, rfl, _⟩ := h
    rfl
  · obtain ⟨p, w, k, rfl, hT, k'⟩ := h
    have hT' := hT
    obtain ⟨m, hW, R, G⟩ := hT'
    have hW' := hW
    obtain ⟨dx, tl, tw, df, ds, W⟩ := hW'
    refine ⟨_, (pss_cons (ps_if (pt_cmpR op_ge (pv 1) (pe_fld (pv 0) rfl) (nomark _))
      (pss_one (ps_ret (pe_lst (pa_cons (pe_gint T.cWRONG) pa_nil))))
      pss_nil)
      (pss_one (ps_ret (pe_lst (pa_cons (pe_fn G1 hr (pa_cons (pv 0) (pa_cons (pv 1) pa_nil))) pa_nil))))), ?_⟩
    refine Det.seqN (b := decide (m.lanes ≤ k)) (fun Q q => ⟨_, rfl, _, rfl, p, C, dx, _, _, rfl, W.obj, T.cl, T.nlanes, rfl, _, _, rfl, rfl, _, rfl, dq q (by omega)⟩) (fun h1 => ?_) (fun h1 => ?_)
    · refine ⟨(by show 1 ≤ sizeLine; decide), fun x hx => ?_⟩
      exact k'.new (by rw [step_worth, if_pos (by rw [R.lanes]; exact of_decide_eq_true h1)]) hT (Same.refl H) hx rfl
    have h1 := of_decide_eq_false h1
    refine ⟨_, rfl, _, rfl, p, m, k, rfl, hW, G, fun H1 s1 => ?_⟩
    refine ⟨(by show 1 ≤ sizeLine; decide), fun x hx => ?_⟩
    refine k'.new (by rw [step_worth, if_neg (by rw [R.lanes]; exact h1), R.laneWorth]) hT s1 hx rfl
/-! ### total -/
theorem scT2 : FnScope ["web"] ["web"] (defScope (top 41)) := ⟨rfl, rfl, rfl, by decide +kernel, rfl, by decide +kernel, by decide +kernel⟩
theorem ok_total (F : Fun K "total" "total" (top 41) f fd) (T : Txt K mg C) (G1 : Callee P w K mg base "worth_of_all" 6 ["web"] (spAll C)) : FnOk P w K mg base CX0 7 f fd ["web"] (spCmd0 C .total) := by
  refine F.ok scT2 (fun vs H Q E h => ?_) (fun cdv A outer s H vs Q E hr h => ?_)
  · obtain ⟨p, w, rfl, _⟩ := h
    rfl
  · obtain ⟨p, w, rfl, hT, k'⟩ := h
    have hT' := hT
    obtain ⟨m, hW, R, G⟩ := hT'
    refine ⟨_, (pss_one (ps_ret (pe_lst (pa_cons (pe_fn G1 hr (pa_cons (pv 0) pa_nil)) pa_nil)))), ?_⟩
    refine ⟨_, rfl, p, m, rfl, hW, G, fun H1 s1 => ⟨(by show 1 ≤ sizeLine; decide), fun x hx => ?_⟩⟩
    exact k'.new (by rw [step_total, R.total]) hT s1 hx rfl
/-! ### alone -/
theorem scA2 : FnScope ["web", "size", "many", "lane", "begin", "end"] ["web", "size"] (defScope (top 42)) := ⟨rfl, rfl, rfl, by decide +kernel, rfl, by decide +kernel, by decide +kernel⟩
theorem ok_alone (F : Fun K "alone" "alone" (top 42) f fd) (T : Txt K mg C) (G1 : Callee P w K mg base "stretches_of" 3 ["web", "lane"] (spPairs C M.stretches)) : FnOk P w K mg base CX0 4 f fd ["web", "size"] (spCmd1 C .alone) := by
  refine F.ok scA2 (fun vs H Q E h => ?_) (fun cdv A outer s H vs Q E hr h => ?_)
  · obtain ⟨p, w, z, rfl, _⟩ := h
    rfl
  · obtain ⟨p, w, z, rfl, hT, k'⟩ := h
    have hT' := hT
    obtain ⟨m, hW, R, G⟩ := hT'
    have hW' := hW
    obtain ⟨dx, tl, tw, df, ds, W⟩ := hW'
    have nd := scA2.nd
    refine ⟨_, (pss_cons (ps_if (pt_cmpR op_gt (pv 1) (pe_gint T.cTALL) (nomark _))
      (pss_one (ps_ret (pe_lst (pa_cons (pe_gint T.cWRONG) pa_nil))))
      pss_nil)
      (pss_cons (ps_set (i := 2) nd rfl (Or.inl rfl) pe_int)
      (pss_cons (ps_for PassesOwn.never rfl (pi_range1 rfl T.brange (pa_cons (pe_fld (pv 0) rfl) pa_nil)) (pg_name (i := 3) nd rfl (Or.inl rfl))
      (pss_one (ps_for PassesOwn.never rfl (pi_list (pe_fn G1 hr (pa_cons (pv 0) (pa_cons (pv 3) pa_nil)))) (pg_tup rfl (pgs_cons (pg_name (i := 4) nd rfl (Or.inl rfl)) (pgs_cons (pg_name (i := 5) nd rfl (Or.inl rfl)) pgs_nil)))
        (pss_one (ps_aug (i := 2) nd rfl (Or.inl rfl) (pe_op op_fdiv (pe_op op_sub (pv 5) (pv 4)) (pe_ix ix_tup (pe_fld (pv 0) rfl) (pv 1) (fun _ _ => rfl))) ip_add)))))
      (pss_one (ps_ret (pe_lst (pa_cons (pv 2) pa_nil))))))), ?_⟩
    refine Det.seqN (b := decide (1 < z)) (fun Q q => ⟨_, rfl, _, _, rfl, rfl, _, rfl, dq q (by omega)⟩) (fun h1 => ?_) (fun h1 => ?_)
    · refine ⟨(by show 1 ≤ sizeLine; decide), fun x hx => ?_⟩
      exact k'.new (by rw [step_alone, if_pos (of_decide_eq_true h1)]) hT (Same.refl H) hx rfl
    have h1 := of_decide_eq_false h1
    have hl3 := G.l3
    have hz0 := G.size_pos z
    have hz6 := G.size_le z
    refine ⟨_, rfl, p, C, dx, _, _, rfl, W.obj, T.cl, T.nlanes, rfl, _, rfl, by omega, by omega, ?_⟩
    refine for_range (lo := 0) (n := ((m.lanes : Nat) : Int).toNat) (fun i σ H' => (∃ v3 v4 v5, σ = [some (.ref p), some (.int z), some (.int (((List.range i).map fun k => ((m.stretches k).map fun p => (p.2 - p.1) / m.size z).sum).sum : Nat)), v3, v4, v5]) ∧ Same H H')
      ⟨⟨none, none, none, rfl⟩, Same.refl H⟩ ?_ ?_
    · rintro i σ H' hi ⟨⟨v3, v4, v5, rfl⟩, s1⟩
      refine ⟨_, rfl, _, rfl, p, m, i, (by rw [Int.zero_add]; rfl), hW.same s1, G, fun H1 a s2 ⟨rs, ps⟩ => ?_⟩
      have W1 := (W.same s1).same s2
      refine ⟨a, rfl, ⟨_, SqL.of ps.at_⟩, ?_⟩
      refine for_list (K := K) (a := a) (xs := rs.map fun r => V.ref r.1) (fun j σ H' => (∃ v3 v4 v5, σ = [some (.ref p), some (.int z), some (.int (((List.range i).map fun k => ((m.stretches k).map fun p => (p.2 - p.1) / m.size z).sum).sum + (((rs.take j).map (·.2)).map fun p => (p.2 - p.1) / m.size z).sum : Nat)), v3, v4, v5]) ∧ H' = H1)
        ⟨⟨_, _, _, rfl⟩, rfl⟩ (fun j σ H' _ ⟨_, e⟩ => by rw [e]; exact SqL.of ps.at_) ?_ ?_
      · rintro j x σ H'' hx ⟨⟨v3, v4, v5, rfl⟩, rfl⟩
        obtain ⟨r, hr1, rfl⟩ := map_at hx
        have hm := mem_of_at hr1
        have hrm : (r.2.1, r.2.2) ∈ m.stretches i := by
          rw [ps.eq]
          exact List.mem_map.mpr ⟨r, hm, rfl⟩
        have hlt := (Fc.M.stretches_mem hrm).1
        refine ⟨_, _, rfl, SqT.of (ps.tup r hm), rfl, _, _, rfl, _, _, rfl, rfl, ?_⟩
        refine ⟨_, rfl, _, rfl, _, rfl, _, _, rfl, rfl, _, rfl, p, C, dx, _, _, rfl, W1.obj, T.cl, T.nlengths, rfl, _, rfl, tl, _, _, _, rfl, rfl, SqT.of W1.len, at2 (by omega), _, _, rfl, rfl, ⟨?_, ?_⟩, _, _, rfl, rfl, ⟨v3, some (.int r.2.1), some (.int r.2.2), ?_⟩, rfl⟩
        · show (0 : Int) < ((m.size z : Nat) : Int)
          omega
        · show ((m.size z : Nat) : Int) < 1073741824
          omega
        · rw [take_snoc hr1, List.map_append, List.map_append, List.sum_append]
          have e : ((r.2.2 : Int) - (r.2.1 : Int)) / ((if z = 0 then m.short else m.tall : Nat) : Int) = (((r.2.2 - r.2.1) / m.size z : Nat) : Int) := by
            rw [Int.natCast_ediv, Int.natCast_sub (Nat.le_of_lt hlt)]
            rfl
          dsimp only
          rw [e, ← Int.natCast_add]
          show [_, _, some (V.int ((_ : Nat) : Int)), _, _, _] = [_, _, some (V.int ((_ : Nat) : Int)), _, _, _]
          rw [Nat.add_assoc]
          rfl
      · rintro σ H'' ⟨⟨v3, v4, v5, rfl⟩, rfl⟩
        refine ⟨⟨v3, v4, v5, ?_⟩, s1.trans s2⟩
        rw [List.length_map, List.take_length, ← ps.eq, List.range_succ, List.map_append, List.sum_append]
        rfl
    · rintro σ H1 ⟨⟨v3, v4, v5, rfl⟩, s1⟩
      refine ⟨_, rfl, (by show 1 ≤ sizeLine; decide), fun x hx => ?_⟩
      rw [Int.toNat_natCast]
      exact k'.new (by rw [step_alone, if_neg h1, R.alone]) hT s1 hx rfl
end
end Fw

end

section
set_option Elab.async false
set_option linter.all false
set_option maxRecDepth 100000
set_option maxHeartbeats 4000000
namespace Fw
open PySem PySem.Spec PyProof.Rows L2
open Kqb1 (Piece Sheet Web)
open Fc (M Rel Good Slots)
open Kqb1Neutral (tell)
section
variable {P : Program} {w : World} {K : PySem.W.Frag} {mg : Str → Option Value} {base : Heap} {C f : Addr} {fd : FuncData}
/-! ### fits -/
theorem scF5 : FnScope pFit pFit (defScope (top 43)) := ⟨rfl, rfl, rfl, by decide +kernel, rfl, by decide +kernel, by decide +kernel⟩
theorem ok_fits (F : Fun K "fits" "fits" (top 43) f fd) (T : Txt K mg C) (G1 : Callee P w K mg base "first_fit" 4 pFit (spFit C)) : FnOk P w K mg base CX0 5 f fd pFit (spCmd3 C .fits) := by
  refine F.ok scF5 (fun vs H Q E h => ?_) (fun cdv A outer s H vs Q E hr h => ?_)
  · obtain ⟨p, w, k, a, z, rfl, _⟩ := h
    rfl
  · obtain ⟨p, w, k, a, z, rfl, hT, k'⟩ := h
    have hT' := hT
    obtain ⟨m, hW, R, G⟩ := hT'
    have hW' := hW
    obtain ⟨dx, tl, tw, df, ds, W⟩ := hW'
    refine ⟨_, (pss_cons (ps_if (PW.pt (pw_or (pt_cmpR op_ge (pv 1) (pe_fld (pv 0) rfl) (nomark _)) (pw_or1 (pt_cmpR op_gt (pv 3) (pe_gint T.cTALL) (nomark _)))))
      (pss_one (ps_ret (pe_lst (pa_cons (pe_gint T.cWRONG) pa_nil))))
      pss_nil)
      (pss_one (ps_ret (pe_lst (pa_cons (pe_ifExp (pt_cmpR op_eq (pe_fn G1 hr (pa_cons (pv 0) (pa_cons (pv 1) (pa_cons (pv 2) (pa_cons (pv 3) pa_nil))))) (pv 2) (nomark _)) pe_int pe_int) pa_nil))))), ?_⟩
    refine Det.seqN (Det.or (b := decide (m.lanes ≤ k)) (c := decide (1 < z)) (fun Q q => ⟨_, rfl, _, rfl, p, C, dx, _, _, rfl, W.obj, T.cl, T.nlanes, rfl, _, _, rfl, rfl, _, rfl, dq q (by omega)⟩) (fun Q q => ⟨_, rfl, _, _, rfl, rfl, _, rfl, dq q (by omega)⟩)) (fun h1 => ?_) (fun h1 => ?_)
    · have h1 : w.lanes ≤ k ∨ 1 < z := by
        rw [R.lanes]
        simpa using h1
      refine ⟨(by show 1 ≤ sizeLine; decide), fun x hx => ?_⟩
      exact k'.new (by rw [step_fits, if_pos h1]) hT (Same.refl H) hx rfl
    have h1' : ¬ (m.lanes ≤ k ∨ 1 < z) := by simpa using h1
    have h1 : ¬ (w.lanes ≤ k ∨ 1 < z) := by rw [R.lanes]; exact h1'
    have hk : k < m.lanes := by omega
    have hz : z ≤ 1 := by omega
    have yes : m.fits k a z = true → Kqb1.step (some w) (.fits k a z) = (some w, .num 1) := fun h => by rw [step_fits, if_neg h1, R.fits hk hz, h]; rfl
    have no : m.fits k a z = false → Kqb1.step (some w) (.fits k a z) = (some w, .num 0) := fun h => by rw [step_fits, if_neg h1, R.fits hk hz, h]; rfl
    refine ⟨_, rfl, _, rfl, _, rfl, _, rfl, p, m, k, a, z, rfl, hW, G, hz, fun j H1 h2 h3 h4 s1 => ?_, fun H1 h2 s1 => ?_⟩
    · refine ⟨_, rfl, rfl, _, rfl, ?_⟩
      by_cases e : j = a
      · subst e
        refine iteY rfl ⟨(by show 1 ≤ sizeLine; decide), fun x hx => ?_⟩
        exact k'.new (yes h3) hT s1 hx rfl
      · refine iteN (by rw [vint]; omega) ⟨(by show 1 ≤ sizeLine; decide), fun x hx => ?_⟩
        exact k'.new (no (h4 a (Nat.le_refl a) (by omega))) hT s1 hx rfl
    · refine ⟨_, rfl, rfl, _, rfl, ?_⟩
      refine iteN (by intro y; cases y) ⟨(by show 1 ≤ sizeLine; decide), fun x hx => ?_⟩
      exact k'.new (no (h2 a (Nat.le_refl a))) hT s1 hx rfl
/-! ### next -/
theorem scN5 : FnScope ["web", "lane", "begin", "size", "place"] pFit (defScope (top 44)) := ⟨rfl, rfl, rfl, by decide +kernel, rfl, by decide +kernel, by decide +kernel⟩
theorem ok_next (F : Fun K "next_place" "next_place" (top 44) f fd) (T : Txt K mg C) (G1 : Callee P w K mg base "first_fit" 4 pFit (spFit C)) : FnOk P w K mg base CX0 5 f fd pFit (spCmd3 C .next) := by
  refine F.ok scN5 (fun vs H Q E h => ?_) (fun cdv A outer s H vs Q E hr h => ?_)
  · obtain ⟨p, w, k, a, z, rfl, _⟩ := h
    rfl
  · obtain ⟨p, w, k, a, z, rfl, hT, k'⟩ := h
    have hT' := hT
    obtain ⟨m, hW, R, G⟩ := hT'
    have hW' := hW
    obtain ⟨dx, tl, tw, df, ds, W⟩ := hW'
    have nd := scN5.nd
    refine ⟨_, (pss_cons (ps_if (PW.pt (pw_or (pt_cmpR op_ge (pv 1) (pe_fld (pv 0) rfl) (nomark _)) (pw_or1 (pt_cmpR op_gt (pv 3) (pe_gint T.cTALL) (nomark _)))))
      (pss_one (ps_ret (pe_lst (pa_cons (pe_gint T.cWRONG) pa_nil))))
      pss_nil)
      (pss_cons (ps_set (i := 4) nd rfl (Or.inl rfl) (pe_fn G1 hr (pa_cons (pv 0) (pa_cons (pv 1) (pa_cons (pv 2) (pa_cons (pv 3) pa_nil))))))
      (pss_one (ps_ret (pe_lst (pa_cons (pe_ifExp (pt_cmp (pc_isN (pv 4))) (pe_gint T.cNONE_THERE) (pv 4)) pa_nil)))))), ?_⟩
    refine Det.seqN (Det.or (b := decide (m.lanes ≤ k)) (c := decide (1 < z)) (fun Q q => ⟨_, rfl, _, rfl, p, C, dx, _, _, rfl, W.obj, T.cl, T.nlanes, rfl, _, _, rfl, rfl, _, rfl, dq q (by omega)⟩) (fun Q q => ⟨_, rfl, _, _, rfl, rfl, _, rfl, dq q (by omega)⟩)) (fun h1 => ?_) (fun h1 => ?_)
    · have h1 : w.lanes ≤ k ∨ 1 < z := by
        rw [R.lanes]
        simpa using h1
      refine ⟨(by show 1 ≤ sizeLine; decide), fun x hx => ?_⟩
      exact k'.new (by rw [step_next, if_pos h1]) hT (Same.refl H) hx rfl
    have h1' : ¬ (m.lanes ≤ k ∨ 1 < z) := by simpa using h1
    have h1 : ¬ (w.lanes ≤ k ∨ 1 < z) := by rw [R.lanes]; exact h1'
    have hk : k < m.lanes := by omega
    have hz : z ≤ 1 := by omega
    refine ⟨_, rfl, _, rfl, _, rfl, _, rfl, p, m, k, a, z, rfl, hW, G, hz, fun j H1 h2 h3 h4 s1 => ?_, fun H1 h2 s1 => ?_⟩
    · have hj := Fc.M.fits_long G h3
      refine ⟨_, rfl, _, rfl, iteN (by intro y; cases y) ⟨_, rfl, (by show 1 ≤ sizeLine; decide), fun x hx => ?_⟩⟩
      exact k'.new (ans := .num (j : Int)) (by rw [step_next, if_neg h1, R.next_some hk hz h2 (by omega) h3 h4]) hT s1 hx rfl
    · refine ⟨_, rfl, _, rfl, iteY rfl ⟨(by show 1 ≤ sizeLine; decide), fun x hx => ?_⟩⟩
      exact k'.new (ans := .num (-33)) (by rw [step_next, if_neg h1, R.next_none hk hz (fun i hi _ => h2 i hi)]) hT s1 hx rfl
/-! ### stamp -/
theorem scS5 : FnScope pFit pFit (defScope (top 45)) := ⟨rfl, rfl, rfl, by decide +kernel, rfl, by decide +kernel, by decide +kernel⟩
theorem ok_stamp (F : Fun K "stamp" "stamp" (top 45) f fd) (T : Txt K mg C) (G1 : Callee P w K mg base "first_fit" 4 pFit (spFit C)) (G2 : Callee P w K mg base "lay_sheet" 2 pFit (spLay C)) : FnOk P w K mg base CX0 5 f fd pFit (spCmd3 C .stamp) := by
  refine F.ok scS5 (fun vs H Q E h => ?_) (fun cdv A outer s H vs Q E hr h => ?_)
  · obtain ⟨p, w, k, a, z, rfl, _⟩ := h
    rfl
  · obtain ⟨p, w, k, a, z, rfl, hT, k'⟩ := h
    have hT' := hT
    obtain ⟨m, hW, R, G⟩ := hT'
    have hW' := hW
    obtain ⟨dx, tl, tw, df, ds, W⟩ := hW'
    refine ⟨_, (pss_cons (ps_if (PW.pt (pw_or (pt_cmpR op_ge (pv 1) (pe_fld (pv 0) rfl) (nomark _)) (pw_or1 (pt_cmpR op_gt (pv 3) (pe_gint T.cTALL) (nomark _)))))
      (pss_one (ps_ret (pe_lst (pa_cons (pe_gint T.cWRONG) pa_nil))))
      pss_nil)
      (pss_cons (ps_if (pt_cmpR op_ne (pe_fn G1 hr (pa_cons (pv 0) (pa_cons (pv 1) (pa_cons (pv 2) (pa_cons (pv 3) pa_nil))))) (pv 2) (nomark _))
      (pss_one (ps_ret (pe_lst (pa_cons (pe_gint T.cTAKEN) pa_nil))))
      pss_nil)
      (pss_cons (ps_if (pt_cmpR op_ge (pe_callB call_lenD (by rfl) T.blen PySem.boot_len (pa_cons (pe_fld (pv 0) rfl) pa_nil)) (pe_gint T.cMOST_SHEETS) (nomark _))
      (pss_one (ps_ret (pe_lst (pa_cons (pe_gint T.cFULL) pa_nil))))
      pss_nil)
      (pss_one (ps_ret (pe_lst (pa_cons (pe_fn G2 (hr.mono (by decide)) (pa_cons (pv 0) (pa_cons (pv 1) (pa_cons (pv 2) (pa_cons (pv 3) pa_nil))))) pa_nil))))))), ?_⟩
    refine Det.seqN (Det.or (b := decide (m.lanes ≤ k)) (c := decide (1 < z)) (fun Q q => ⟨_, rfl, _, rfl, p, C, dx, _, _, rfl, W.obj, T.cl, T.nlanes, rfl, _, _, rfl, rfl, _, rfl, dq q (by omega)⟩) (fun Q q => ⟨_, rfl, _, _, rfl, rfl, _, rfl, dq q (by omega)⟩)) (fun h1 => ?_) (fun h1 => ?_)
    · have h1 : w.lanes ≤ k ∨ 1 < z := by
        rw [R.lanes]
        simpa using h1
      refine ⟨(by show 1 ≤ sizeLine; decide), fun x hx => ?_⟩
      exact k'.new (by rw [step_stamp, if_pos h1]) hT (Same.refl H) hx rfl
    have h1' : ¬ (m.lanes ≤ k ∨ 1 < z) := by simpa using h1
    have h1 : ¬ (w.lanes ≤ k ∨ 1 < z) := by rw [R.lanes]; exact h1'
    have hk : k < m.lanes := by omega
    have hz : z ≤ 1 := by omega
    have no : m.fits k a z = false → Kqb1.step (some w) (.stamp k a z) = (some w, .num (-16)) := fun h => by rw [step_stamp, if_neg h1, R.fits hk hz, if_pos h]
    refine ⟨_, rfl, _, rfl, _, rfl, _, rfl, p, m, k, a, z, rfl, hW, G, hz, fun j H1 h2 h3 h4 s1 => ?_, fun H1 h2 s1 => ?_⟩
    · refine ⟨_, rfl, rfl, _, rfl, ?_⟩
      by_cases e : j = a
      · subst e
        refine iteF' (by rw [decide_eq_true rfl]; rfl) ?_
        have W1 := W.same s1
        obtain ⟨ss, hS⟩ := W1.she
        refine tNextS ?_
        refine Det.seqN (b := decide (30 ≤ m.sheets.length)) (fun Q q => ⟨_, rfl, p, C, dx, _, _, rfl, W1.obj, T.cl, T.nsheets, rfl, ds, _, rfl, hS.at_, _, _, rfl, rfl, _, rfl, dq q (by rw [hS.len]; omega)⟩) (fun h5 => ?_) (fun h5 => ?_)
        · refine ⟨(by show 1 ≤ sizeLine; decide), fun x hx => ?_⟩
          exact k'.new (by rw [step_stamp, if_neg h1, R.fits hk hz, if_neg (by rw [h3]; intro y; cases y), if_pos (by rw [← R.sheets.len]; exact of_decide_eq_true h5)]) hT s1 hx rfl
        have h5 := of_decide_eq_false h5
        have es : Kqb1.step (some w) (.stamp k j z) = (some { w with sheets := Kqb1.putIn w.sheets ⟨k, j, z⟩ }, .num (Kqb1.slot w.sheets)) := by
          rw [step_stamp, if_neg h1, R.fits hk hz, if_neg (by rw [h3]; intro y; cases y), if_neg (by rw [← R.sheets.len]; exact h5)]
        refine ⟨_, rfl, _, rfl, _, rfl, _, rfl, p, m, k, j, z, w.sheets.length, rfl, hW.same s1, by have := G.s30; omega, fun n hn => R.sheets.key_lt hn, fun n H2 hn1 hn2 is2 near => ?_⟩
        have hslot := R.sheets.least hn1 hn2
        refine ⟨(by show 1 ≤ sizeLine; decide), fun x hx => ?_⟩
        have nn := (Near.of s1).trans near
        have s3 : Same H2 (upd H2 x (.lst [.int n])) := same_new hx
        refine k' _ x { w with sheets := Kqb1.putIn w.sheets ⟨k, j, z⟩ } (nn.lists.trans (Lists.of s3)) (nn.free _ hx) (by rw [es]) ⟨m.stampedWith n ⟨k, j, z⟩, is2.same s3, R.stampedWith ⟨k, j, z⟩ hslot, G.stampedWith hk hz (Fc.M.fits_long G h3) (by omega) fun i h6 h7 => ?_⟩ ?_
        · have hf := Fc.M.fits_iff.mp h3 i h6 h7
          unfold Fc.M.free at hf
          simp at hf
          exact hf.2.1
        · rw [upd_same, es, hslot]
          rfl
      · refine iteT' (by rw [decide_eq_false (by rw [vint]; omega)]; rfl) ⟨(by show 1 ≤ sizeLine; decide), fun x hx => ?_⟩
        exact k'.new (no (h4 a (Nat.le_refl a) (by omega))) hT s1 hx rfl
    · refine ⟨_, rfl, rfl, _, rfl, ?_⟩
      refine iteT' (by rw [decide_eq_false (by intro y; cases y)]; rfl) ⟨(by show 1 ≤ sizeLine; decide), fun x hx => ?_⟩
      exact k'.new (no (h2 a (Nat.le_refl a))) hT s1 hx rfl
/-! ### follow -/
theorem scW5 : FnScope ["web", "lane", "planned", "begin", "size"] ["web", "lane"] (defScope (top 46)) := ⟨rfl, rfl, rfl, by decide +kernel, rfl, by decide +kernel, by decide +kernel⟩
theorem ok_follow (F : Fun K "follow" "follow" (top 46) f fd) (T : Txt K mg C) (G1 : Callee P w K mg base "plan_of" 4 ["web", "lane"] (spPairs C M.plan)) (G2 : Callee P w K mg base "lay_sheet" 2 pFit (spLay C)) : FnOk P w K mg base CX0 5 f fd ["web", "lane"] (spCmd1 C .follow) := by
  refine F.ok scW5 (fun vs H Q E h => ?_) (fun cdv A outer s H vs Q E hr h => ?_)
  · obtain ⟨p, w, k, rfl, _⟩ := h
    rfl
  · obtain ⟨p, w, k, rfl, hT, k'⟩ := h
    have hT' := hT
    obtain ⟨m, hW, R, G⟩ := hT'
    have hW' := hW
    obtain ⟨dx, tl, tw, df, ds, W⟩ := hW'
    have nd := scW5.nd
    refine ⟨_, (pss_cons (ps_if (pt_cmpR op_ge (pv 1) (pe_fld (pv 0) rfl) (nomark _))
      (pss_one (ps_ret (pe_lst (pa_cons (pe_gint T.cWRONG) pa_nil))))
      pss_nil)
      (pss_cons (ps_set (i := 2) nd rfl (Or.inl rfl) (pe_fn G1 hr (pa_cons (pv 0) (pa_cons (pv 1) pa_nil))))
      (pss_cons (ps_if (pt_cmpR op_gt (pe_op op_add (pe_callB call_lenD (by rfl) T.blen PySem.boot_len (pa_cons (pe_fld (pv 0) rfl) pa_nil)) (pe_callB call_len_seq (by rfl) T.blen PySem.boot_len (pa_cons (pv 2) pa_nil))) (pe_gint T.cMOST_SHEETS) (nomark _))
      (pss_one (ps_ret (pe_lst (pa_cons (pe_gint T.cFULL) pa_nil))))
      pss_nil)
      (pss_cons (ps_for PassesOwn.never rfl (pi_list (pv 2)) (pg_tup rfl (pgs_cons (pg_name (i := 3) nd rfl (Or.inl rfl)) (pgs_cons (pg_name (i := 4) nd rfl (Or.inl rfl)) pgs_nil)))
      (pss_one (ps_expr (pe_fn G2 (hr.mono (by decide)) (pa_cons (pv 0) (pa_cons (pv 1) (pa_cons (pv 3) (pa_cons (pv 4) pa_nil))))))))
      (pss_one (ps_ret (pe_lst (pa_cons (pe_callB call_len_seq (by rfl) T.blen PySem.boot_len (pa_cons (pv 2) pa_nil)) pa_nil)))))))), ?_⟩
    refine Det.seqN (b := decide (m.lanes ≤ k)) (fun Q q => ⟨_, rfl, _, rfl, p, C, dx, _, _, rfl, W.obj, T.cl, T.nlanes, rfl, _, _, rfl, rfl, _, rfl, dq q (by omega)⟩) (fun h1 => ?_) (fun h1 => ?_)
    · refine ⟨(by show 1 ≤ sizeLine; decide), fun x hx => ?_⟩
      exact k'.new (by rw [step_follow, if_pos (by rw [R.lanes]; exact of_decide_eq_true h1)]) hT (Same.refl H) hx rfl
    have h1 := of_decide_eq_false h1
    have h1w : ¬ w.lanes ≤ k := by rw [R.lanes]; exact h1
    refine ⟨_, rfl, _, rfl, p, m, k, rfl, hW, G, fun H1 b s1 ⟨rs, ps⟩ => ?_⟩
    have W1 := W.same s1
    obtain ⟨ss, hS⟩ := W1.she
    have hlen : (rs.map fun r => V.ref r.1).length = (m.plan k).length := by rw [List.length_map, ps.len]
    dsimp only [gName]
    refine Det.seqN (b := decide (30 < m.sheets.length + (m.plan k).length)) (fun Q q => ⟨_, rfl, p, C, dx, _, _, rfl, W1.obj, T.cl, T.nsheets, rfl, ds, _, rfl, hS.at_, _, rfl, b, _, rfl, .inl (SqL.of ps.at_), _, _, rfl, rfl, _, _, rfl, rfl, _, rfl, dq q (by rw [hS.len, hlen]; omega)⟩) (fun h2 => ?_) (fun h2 => ?_)
    · refine ⟨(by show 1 ≤ sizeLine; decide), fun x hx => ?_⟩
      exact k'.new (by rw [step_follow, if_neg h1w, R.plan, ← R.sheets.len, if_pos (show Kqb1.SHEETS < _ from of_decide_eq_true h2)]) hT s1 hx rfl
    have h2 := of_decide_eq_false h2
    have es : Kqb1.step (some w) (.follow k) = (some { w with sheets := (m.plan k).foldl (fun l p => Kqb1.putIn l ⟨k, p.1, p.2⟩) w.sheets }, .num (m.plan k).length) := by
      rw [step_follow, if_neg h1w, R.plan, ← R.sheets.len, if_neg (show ¬ Kqb1.SHEETS < _ from h2)]
    refine ⟨_, rfl, b, rfl, ⟨_, SqL.of ps.at_⟩, ?_⟩
    refine for_list (K := K) (a := b) (xs := rs.map fun r => V.ref r.1) (fun i σ H' => (∃ v3 v4, σ = [some (.ref p), some (.int k), some (.ref b), v3, v4]) ∧ Near H1 H' ∧ ∃ l, Is C H' p { m with sheets := l } ∧ l.length = m.sheets.length + i ∧ Good { m with sheets := l } ∧
      Rel { m with sheets := l } { w with sheets := ((m.plan k).take i).foldl (fun l p => Kqb1.putIn l ⟨k, p.1, p.2⟩) w.sheets })
      ⟨⟨none, none, rfl⟩, Near.of (Same.refl H1), m.sheets, hW.same s1, rfl, G, R⟩ (fun i σ H' _ ⟨_, n, _⟩ => SqL.of (n.keep _ _ ps.at_ (by intro kvs y; cases y))) ?_ ?_
    · rintro i x σ H' hx ⟨⟨v3, v4, rfl⟩, near, l, is, hl, Gl, Rl⟩
      obtain ⟨r, hr1, rfl⟩ := map_at hx
      have hm := mem_of_at hr1
      have hi := lt_of_at hr1
      have hat : (m.plan k)[i]? = some r.2 := by rw [ps.eq, List.getElem?_map, hr1]; rfl
      have hpl : i < (m.plan k).length := lt_of_at hat
      obtain ⟨z1, z2, z3⟩ := Fc.M.plan_mem G (k := k) (b := r.2.1) (z := r.2.2) (mem_of_at hat)
      have ht := near.keep _ _ (ps.tup r hm) (by intro kvs y; cases y)
      refine ⟨_, _, rfl, SqT.of ht, rfl, _, _, rfl, _, _, rfl, rfl, ?_⟩
      refine ⟨_, rfl, _, rfl, _, rfl, _, rfl, p, { m with sheets := l }, k, r.2.1, r.2.2, _, rfl, is, by show l.length ≤ 1000; omega, fun n hn => Rl.sheets.key_lt hn, fun n H2 hn1 hn2 is2 near2 => ?_⟩
      have hslot := Rl.sheets.least hn1 hn2
      refine ⟨⟨_, _, rfl⟩, near.trans near2, l ++ [(n, (⟨k, r.2.1, r.2.2⟩ : Sheet))], is2, ?_, ?_, ?_⟩
      · rw [List.length_append, hl]
        rfl
      · refine Gl.stampedWith (n := n) (x := ⟨k, r.2.1, r.2.2⟩) (by show k < m.lanes; omega) z1 z2 (by show l.length < 30; omega) fun i h6 h7 => ?_
        have hf := z3 i h6 h7
        unfold Fc.M.free at hf
        simp at hf
        exact hf.2.1
      · have e := Rl.stampedWith ⟨k, r.2.1, r.2.2⟩ hslot
        rw [take_snoc hat, List.foldl_append]
        exact e
    · rintro σ H' ⟨⟨v3, v4, rfl⟩, near, l, is, hl, Gl, Rl⟩
      rw [hlen, List.take_length] at Rl
      refine ⟨_, rfl, b, _, rfl, .inl (SqL.of (near.keep _ _ ps.at_ (by intro kvs y; cases y))), (by show 1 ≤ sizeLine; decide), fun x hx => ?_⟩
      have nn := (Near.of s1).trans near
      have s3 : ∀ vs, Same H' (upd H' x (.lst vs)) := fun vs => same_new hx
      refine k' _ x { w with sheets := (m.plan k).foldl (fun l p => Kqb1.putIn l ⟨k, p.1, p.2⟩) w.sheets } (nn.lists.trans (Lists.of (s3 _))) (nn.free _ hx) (by rw [es]) ⟨{ m with sheets := l }, is.same (s3 _), Rl, Gl⟩ ?_
      rw [upd_same, es, hlen]
      rfl
end
end Fw

end

section
set_option Elab.async false
set_option linter.all false
set_option maxRecDepth 100000
set_option maxHeartbeats 4000000
namespace Fw
open PySem PySem.Spec PyProof.Rows L2
open Kqb1 (Piece Sheet Web)
open Fc (M Rel Good Slots)
open Kqb1Neutral (tell)
theorem sheet_there {H : Hp} {ds : Addr} {m : M} {w : Web} {ss : List (Nat × Sheet × Addr)} (R : Rel m w) (hS : DAt triS H ds m.sheets ss) {n : Nat} (h : (valV (kvsOf ss) (Sum.inl (n : Int))).isSome = true) :
    ∃ (x : Sheet) (t : Addr), valV (kvsOf ss) (Sum.inl (n : Int)) = some (.ref t) ∧ H t = some (.tup (triS x)) ∧ w.sheets.getD n none = some x ∧ w.sheets[n]? = some (some x) := by
  have hm : n ∈ ss.map (·.1) := by
    refine Classical.byContradiction fun hn => ?_
    rw [valV_none hn] at h
    cases h
  obtain ⟨q, hq, e, hv⟩ := valV_some hm
  have hmem : (n, q.2.1) ∈ m.sheets := by
    rw [hS.eq, ← e]
    exact List.mem_map.mpr ⟨q, hq, rfl⟩
  exact ⟨q.2.1, q.2.2, hv, hS.tup q hq, R.sheets.getD.mpr hmem, (R.sheets.mem _ _).mp hmem⟩
theorem sheet_gone {H : Hp} {ds : Addr} {m : M} {w : Web} {ss : List (Nat × Sheet × Addr)} (R : Rel m w) (hS : DAt triS H ds m.sheets ss) {n : Nat} (h : (valV (kvsOf ss) (Sum.inl (n : Int))).isSome = false) : w.sheets.getD n none = none := by
  have hn : n ∉ m.sheets.map (·.1) := fun hm => by
    rw [hS.keys] at hm
    obtain ⟨q, _, _, e⟩ := valV_some hm
    rw [e] at h
    cases h
  exact Option.isNone_iff_eq_none.mp (R.sheets.getD_none.mpr hn)
section
variable {P : Program} {w : World} {K : PySem.W.Frag} {mg : Str → Option Value} {base : Heap} {C f : Addr} {fd : FuncData}
/-! ### lift -/
theorem scL6 : FnScope ["web", "s", "lifted"] ["web", "s"] (defScope (top 47)) := ⟨rfl, rfl, rfl, by decide +kernel, rfl, by decide +kernel, by decide +kernel⟩
theorem ok_lift (F : Fun K "lift" "lift" (top 47) f fd) (T : Txt K mg C) : FnOk P w K mg base CX0 1 f fd ["web", "s"] (spCmd1 C .lift) := by
  refine F.ok scL6 (fun vs H Q E h => ?_) (fun cdv A outer s H vs Q E hr h => ?_)
  · obtain ⟨p, w, n, rfl, _⟩ := h
    rfl
  · obtain ⟨p, w, n, rfl, hT, k'⟩ := h
    have hT' := hT
    obtain ⟨m, ⟨dx, tl, tw, df, ds, W⟩, R, G⟩ := hT'
    have nd := scL6.nd
    have hu := hu_of hr
    refine ⟨_, (pss_cons (ps_if (pt_cmp (pc_dnotin hu (pv 1) (pe_fld (pv 0) rfl)))
      (pss_one (ps_ret (pe_lst (pa_cons (pe_gint T.cNONE_SUCH) pa_nil))))
      pss_nil)
      (pss_cons (ps_set (i := 2) nd rfl (Or.inl rfl) (pe_dpop1 (pe_fld (pv 0) rfl) (pv 1) ⟨rfl, rfl, rfl, rfl⟩))
      (pss_one (ps_ret (pe_lst (pa_cons (pe_ix ix_tup (pv 2) pe_int (fun _ _ => rfl)) pa_nil)))))), ?_⟩
    obtain ⟨ss, hS⟩ := W.she
    refine Det.seqN (b := !(valV (kvsOf ss) (Sum.inl (n : Int))).isSome) (fun Q q => ⟨_, rfl, _, rfl, p, C, dx, _, _, rfl, W.obj, T.cl, T.nsheets, rfl, ds, _, rfl, DGet.k (k := Sum.inl (n : Int)) hS.at_, _, rfl, q⟩) (fun h1 => ?_) (fun h1 => ?_)
    · refine ⟨(by show 1 ≤ sizeLine; decide), fun x hx => ?_⟩
      exact k'.new (step_lift_none w n (sheet_gone R hS (by simpa using h1))) hT (Same.refl H) hx rfl
    obtain ⟨y, t, hv, ht, hg, hy⟩ := sheet_there R hS (n := n) (by simpa using h1)
    have es := step_lift_some w n hg
    refine ⟨_, rfl, p, C, dx, _, _, rfl, W.obj, T.cl, T.nsheets, rfl, ds, rfl, .inl ⟨_, .inl hS.at_⟩, _, rfl, _, Sum.inl (n : Int), _, hS.at_, rfl, hv, ?_⟩
    have nt : t ≠ ds := ne_of ht hS.at_ (by intro z; cases z)
    refine ⟨_, rfl, t, _, _, _, rfl, rfl, SqT.of (by rw [upd_ne nt]; exact ht), rfl, (by show 1 ≤ sizeLine; decide), fun x hx => ?_⟩
    have kp : ∀ c o, H c = some o → c ≠ ds → (upd (upd H ds (.dK (dropK (kvsOf ss) (Sum.inl (n : Int))))) x (.lst [.int y.size])) c = some o := fun c o e nc => by
      have e2 : (upd H ds (.dK (dropK (kvsOf ss) (Sum.inl (n : Int))))) c = some o := by rw [upd_ne nc]; exact e
      rw [upd_ne (ne_of_none e2 hx)]
      exact e2
    have nx : ds ≠ x := fun z => by
      rw [← z, upd_same] at hx
      cases hx
    have hD2 : DictAt triS (upd (upd H ds (.dK (dropK (kvsOf ss) (Sum.inl (n : Int))))) x (.lst [.int y.size])) ds (m.sheets.filter fun q => decide (q.1 ≠ n)) := hS.drop (by rw [upd_ne nx]; exact upd_same) kp
    refine k' _ x { w with sheets := w.sheets.set n none } ⟨fun c xs e => kp c _ e (ne_of e hS.at_ (by intro z; cases z)), fun c o u e => kp c _ e (ne_of e hS.at_ (by intro z; cases z))⟩ (by rw [upd_ne nx.symm] at hx; exact hx) (by rw [es]) ⟨m.lifted n, ⟨dx, tl, tw, df, ds, W.setS hD2 kp⟩, R.lifted hy, G.lifted n⟩ ?_
    rw [upd_same, es]
    rfl
/-! ### sheet -/
theorem scH6 : FnScope ["web", "s", "found"] ["web", "s"] (defScope (top 50)) := ⟨rfl, rfl, rfl, by decide +kernel, rfl, by decide +kernel, by decide +kernel⟩
theorem ok_sheet (F : Fun K "sheet" "sheet" (top 50) f fd) (T : Txt K mg C) : FnOk P w K mg base CX0 1 f fd ["web", "s"] (spCmd1 C .sheet) := by
  refine F.ok scH6 (fun vs H Q E h => ?_) (fun cdv A outer s H vs Q E hr h => ?_)
  · obtain ⟨p, w, n, rfl, _⟩ := h
    rfl
  · obtain ⟨p, w, n, rfl, hT, k'⟩ := h
    have hT' := hT
    obtain ⟨m, ⟨dx, tl, tw, df, ds, W⟩, R, G⟩ := hT'
    have nd := scH6.nd
    have hu := hu_of hr
    refine ⟨_, (pss_cons (ps_if (pt_cmp (pc_dnotin hu (pv 1) (pe_fld (pv 0) rfl)))
      (pss_one (ps_ret (pe_lst (pa_cons (pe_gint T.cNONE_SUCH) pa_nil))))
      pss_nil)
      (pss_cons (ps_set (i := 2) nd rfl (Or.inl rfl) (pe_dget hu (pe_fld (pv 0) rfl) (pv 1) (fun _ _ => rfl)))
      (pss_one (ps_ret (pe_lst (pa_cons (pe_ix ix_tup (pv 2) pe_int (fun _ _ => rfl)) (pa_cons (pe_ix ix_tup (pv 2) pe_int (fun _ _ => rfl)) (pa_cons (pe_ix ix_tup (pv 2) pe_int (fun _ _ => rfl)) pa_nil)))))))), ?_⟩
    obtain ⟨ss, hS⟩ := W.she
    refine Det.seqN (b := !(valV (kvsOf ss) (Sum.inl (n : Int))).isSome) (fun Q q => ⟨_, rfl, _, rfl, p, C, dx, _, _, rfl, W.obj, T.cl, T.nsheets, rfl, ds, _, rfl, DGet.k (k := Sum.inl (n : Int)) hS.at_, _, rfl, q⟩) (fun h1 => ?_) (fun h1 => ?_)
    · refine ⟨(by show 1 ≤ sizeLine; decide), fun x hx => ?_⟩
      exact k'.new (step_sheet_none w n (sheet_gone R hS (by simpa using h1))) hT (Same.refl H) hx rfl
    obtain ⟨y, t, hv, ht, hg, hy⟩ := sheet_there R hS (n := n) (by simpa using h1)
    refine ⟨_, rfl, p, C, dx, _, _, rfl, W.obj, T.cl, T.nsheets, rfl, _, rfl, ds, _, rfl, (by have z := DGet.k (k := Sum.inl (n : Int)) hS.at_; rw [hv] at z; exact z), ?_⟩
    refine ⟨_, rfl, t, _, _, _, rfl, rfl, SqT.of ht, rfl, _, rfl, t, _, _, _, rfl, rfl, SqT.of ht, rfl, _, rfl, t, _, _, _, rfl, rfl, SqT.of ht, rfl, (by show 3 ≤ sizeLine; decide), fun x hx => ?_⟩
    exact k'.new (step_sheet_some w n hg) hT (Same.refl H) hx rfl
/-! ### state -/
theorem scT6 : FnScope ["web"] ["web"] (defScope (top 52)) := ⟨rfl, rfl, rfl, by decide +kernel, rfl, by decide +kernel, by decide +kernel⟩
theorem ok_state (F : Fun K "state" "state" (top 52) f fd) (T : Txt K mg C) : FnOk P w K mg base CX0 1 f fd ["web"] (spCmd0 C .state) := by
  refine F.ok scT6 (fun vs H Q E h => ?_) (fun cdv A outer s H vs Q E hr h => ?_)
  · obtain ⟨p, w, rfl, _⟩ := h
    rfl
  · obtain ⟨p, w, rfl, hT, k'⟩ := h
    have hT' := hT
    obtain ⟨m, ⟨dx, tl, tw, df, ds, W⟩, R, G⟩ := hT'
    refine ⟨_, (pss_one (ps_ret (pe_lst (pa_cons (pe_fld (pv 0) rfl) (pa_cons (pe_fld (pv 0) rfl) (pa_cons (pe_callB call_lenD (by rfl) T.blen PySem.boot_len (pa_cons (pe_fld (pv 0) rfl) pa_nil)) (pa_cons (pe_callB call_lenD (by rfl) T.blen PySem.boot_len (pa_cons (pe_fld (pv 0) rfl) pa_nil)) pa_nil))))))), ?_⟩
    obtain ⟨fs, hF⟩ := W.fau
    obtain ⟨ss, hS⟩ := W.she
    refine ⟨_, rfl, p, C, dx, _, _, rfl, W.obj, T.cl, T.nlong, rfl, ?_⟩
    refine ⟨_, rfl, p, C, dx, _, _, rfl, W.obj, T.cl, T.nlanes, rfl, ?_⟩
    refine ⟨_, rfl, p, C, dx, _, _, rfl, W.obj, T.cl, T.nfaults, rfl, df, _, rfl, hF.at_, ?_⟩
    refine ⟨_, rfl, p, C, dx, _, _, rfl, W.obj, T.cl, T.nsheets, rfl, ds, _, rfl, hS.at_, (by show 4 ≤ sizeLine; decide), fun x hx => ?_⟩
    refine k'.new (step_state w) hT (Same.refl H) hx ?_
    rw [hF.len, hS.len, R.long, R.lanes, ← R.faults.len, ← R.sheets.len]
    rfl
/-! ### gain -/
theorem scG6 : FnScope ["web", "f"] ["web", "f"] (defScope (top 48)) := ⟨rfl, rfl, rfl, by decide +kernel, rfl, by decide +kernel, by decide +kernel⟩
theorem ok_gain (F : Fun K "gain" "gain" (top 48) f fd) (T : Txt K mg C) (G1 : Callee P w K mg base "cost_of" 7 ["web", "f"] (spCost C)) : FnOk P w K mg base CX0 8 f fd ["web", "f"] (spCmd1 C .gain) := by
  refine F.ok scG6 (fun vs H Q E h => ?_) (fun cdv A outer s H vs Q E hr h => ?_)
  · obtain ⟨p, w, n, rfl, _⟩ := h
    rfl
  · obtain ⟨p, w, n, rfl, hT, k'⟩ := h
    have hT' := hT
    obtain ⟨m, hW, R, G⟩ := hT'
    have hW' := hW
    obtain ⟨dx, tl, tw, df, ds, W⟩ := hW'
    have hu := hu_of hr
    refine ⟨_, (pss_cons (ps_if (pt_cmp (pc_dnotin hu (pv 1) (pe_fld (pv 0) rfl)))
      (pss_one (ps_ret (pe_lst (pa_cons (pe_gint T.cNONE_SUCH) pa_nil))))
      pss_nil)
      (pss_one (ps_ret (pe_lst (pa_cons (pe_fn G1 hr (pa_cons (pv 0) (pa_cons (pv 1) pa_nil))) pa_nil))))), ?_⟩
    obtain ⟨fs, hF⟩ := W.fau
    refine Det.seqN (b := !(valV (kvsOf fs) (Sum.inl (n : Int))).isSome) (fun Q q => ⟨_, rfl, _, rfl, p, C, dx, _, _, rfl, W.obj, T.cl, T.nfaults, rfl, df, _, rfl, DGet.k (k := Sum.inl (n : Int)) hF.at_, _, rfl, q⟩) (fun h1 => ?_) (fun h1 => ?_)
    · have hn : n ∉ m.faults.map (·.1) := fun hm => by
        rw [hF.keys] at hm
        obtain ⟨q, _, _, e⟩ := valV_some hm
        rw [e] at h1
        cases h1
      refine ⟨(by show 1 ≤ sizeLine; decide), fun x hx => ?_⟩
      exact k'.new (by rw [step_gain, if_pos (R.faults.getD_none.mpr hn)]) hT (Same.refl H) hx rfl
    have hm : n ∈ m.faults.map (·.1) := by
      refine Classical.byContradiction fun hn => ?_
      rw [valV_none (by rw [← hF.keys]; exact hn)] at h1
      cases h1
    refine ⟨_, rfl, _, rfl, p, m, n, rfl, hW, G, hm, fun H1 s1 => ⟨(by show 1 ≤ sizeLine; decide), fun x hx => ?_⟩⟩
    refine k'.new (ans := .num ((Kqb1.gain w n : Nat) : Int)) (by rw [step_gain, if_neg (fun z => (R.faults.getD_none.mp z) hm)]) hT s1 hx ?_
    rw [R.gain G hm]
    rfl
/-! ### worst -/
theorem first_at {α : Type} [DecidableEq α] {y : α} : ∀ {l : List α}, y ∈ l → ∃ j : Nat, l[j]? = some y ∧ ∀ i z, i < j → l[i]? = some z → z ≠ y
  | a :: l, h => by
    by_cases e : a = y
    · exact ⟨0, by simp [e], fun i z hi => by omega⟩
    · have h' : y ∈ l := by
        rcases List.mem_cons.mp h with q | q
        · exact absurd q.symm e
        · exact q
      obtain ⟨j, h1, h2⟩ := first_at h'
      refine ⟨j + 1, by simpa using h1, fun i z hi hz => ?_⟩
      cases i with
      | zero =>
        have : a = z := by simpa using hz
        rw [← this]
        exact e
      | succ i => exact h2 i z (by omega) (by simpa using hz)
def costOf (m : M) (i : Int) : Int := ((m.mended i.toNat).total : Int) - (m.total : Int)
theorem scO6 : FnScope ["web", "numbers", "costs", "f", "most"] ["web"] (defScope (top 49)) := ⟨rfl, rfl, rfl, by decide +kernel, rfl, by decide +kernel, by decide +kernel⟩
theorem ok_worst (F : Fun K "worst" "worst" (top 49) f fd) (T : Txt K mg C) (G1 : Callee P w K mg base "cost_of" 7 ["web", "f"] (spCost C)) : FnOk P w K mg base CX0 8 f fd ["web"] (spCmd0 C .worst) := by
  refine F.ok scO6 (fun vs H Q E h => ?_) (fun cdv A outer s H vs Q E hr h => ?_)
  · obtain ⟨p, w, rfl, _⟩ := h
    rfl
  · obtain ⟨p, w, rfl, hT, k'⟩ := h
    have hT' := hT
    obtain ⟨m, hW, R, G⟩ := hT'
    have hW' := hW
    obtain ⟨dx, tl, tw, df, ds, W⟩ := hW'
    have nd := scO6.nd
    refine ⟨_, (pss_cons (ps_if (pt_cmpR op_eq (pe_callB call_lenD (by rfl) T.blen PySem.boot_len (pa_cons (pe_fld (pv 0) rfl) pa_nil)) pe_int (nomark _))
      (pss_one (ps_ret (pe_lst (pa_cons (pe_gint T.cNONE_THERE) pa_nil))))
      pss_nil)
      (pss_cons (ps_set (i := 1) nd rfl (Or.inl rfl) (pe_callB (cr_sortedD rfl) (by rfl) T.bsorted PyProof.Rows.boot_sorted (pa_cons (pe_fld (pv 0) rfl) pa_nil)))
      (pss_cons (ps_setLc (i := 2) (own := [("f", 3)]) (te := tCall (spCost C) [] E0 (tCons (tVar 0) (tCons (tVar 3) tNil))) rfl nd rfl rfl (sw_true rfl rfl rfl rfl) (pi_list (pv 1)) (blkOk_by (by rfl)) (fun _ _ _ _ _ => (pg_name (i := 3) nd rfl (Or.inl rfl))) (fun _ _ _ _ _ => pts_nil) (fun _ _ _ _ _ => (pe_fn G1 hr (pa_cons (pv 0) (pa_cons (pv 3) pa_nil)))))
      (pss_cons (ps_set (i := 4) nd rfl (Or.inl rfl) (pe_callB (cr_max rfl) (by rfl) T.bmax PyProof.Rows.boot_max (pa_cons (pv 2) pa_nil)))
      (pss_one (ps_ret (pe_lst (pa_cons (pe_ix ix_list (pv 1) (pe_bm PySem.F.plainAttrs_list PySem.F.slot_list_index PySem.F.type_list_index mt_index (pv 2) (pa_cons (pv 4) pa_nil)) (fun _ _ => rfl)) (pa_cons (pv 4) pa_nil))))))))), ?_⟩
    obtain ⟨fs, hF⟩ := W.fau
    refine Det.seqN (b := decide (m.faults.length = 0)) (fun Q q => ⟨_, rfl, p, C, dx, _, _, rfl, W.obj, T.cl, T.nfaults, rfl, df, _, rfl, hF.at_, rfl, _, rfl, dq q (by rw [vint, hF.len]; omega)⟩) (fun h1 => ?_) (fun h1 => ?_)
    · have h1 : m.faults = [] := List.length_eq_zero_iff.mp (of_decide_eq_true h1)
      refine ⟨(by show 1 ≤ sizeLine; decide), fun x hx => ?_⟩
      exact k'.new (ans := .num (-33)) (by rw [step_worst, R.worst_none h1]) hT (Same.refl H) hx rfl
    have h1 := of_decide_eq_false h1
    refine ⟨_, rfl, p, C, dx, _, _, rfl, W.obj, T.cl, T.nfaults, rfl, df, kvsOf fs, m.faults.map (fun q => ((q.1 : Nat) : Int)), rfl, hF.at_, ?_, ?_, fun ns' nl hperm hsort hnl => ?_⟩
    · rw [kvs_keys, ← hF.keys, List.map_map, List.map_map]
      rfl
    · rw [List.length_map]
      have := G.f8
      omega
    have hmem : ∀ i : Int, i ∈ ns' → ∃ n : Nat, i = (n : Int) ∧ n ∈ m.faults.map (·.1) := fun i hi => by
      have := hperm.mem_iff.mp hi
      obtain ⟨q, hq, e⟩ := List.mem_map.mp this
      exact ⟨q.1, e.symm, List.mem_map.mpr ⟨q, hq, rfl⟩⟩
    have hmem2 : ∀ n : Nat, n ∈ m.faults.map (·.1) → (n : Int) ∈ ns' := fun n hn => by
      obtain ⟨q, hq, e⟩ := List.mem_map.mp hn
      exact hperm.mem_iff.mpr (List.mem_map.mpr ⟨q, hq, by rw [← e]⟩)
    have hlen : ns'.length = m.faults.length := by rw [hperm.length_eq, List.length_map]
    have h8 := G.f8
    have s1 : Same H (upd H nl (.lst (ns'.map V.int))) := same_new hnl
    have hn1 : (upd H nl (.lst (ns'.map V.int))) nl = some (.lst (ns'.map V.int)) := upd_same
    generalize upd H nl (.lst (ns'.map V.int)) = H1 at s1 hn1
    dsimp only [gName]
    refine ⟨_, rfl, nl, rfl, ⟨_, SqL.of hn1⟩, fun D hD => ?_⟩
    refine lc_list (K := K) (a := nl) (xs := ns'.map V.int) (fun i H' => H' D = some (.lst ((ns'.take i).map fun i => V.int (costOf m i))) ∧ Same H1 H') ⟨upd_same, same_new hD⟩ (fun i H' _ h => SqL.of (h.2 _ _ hn1)) ?_ ?_
    · rintro i x H' hx ⟨hD', s2⟩
      obtain ⟨v, hv, rfl⟩ := map_at hx
      obtain ⟨n, rfl, hn⟩ := hmem v (mem_of_at hv)
      refine ⟨rfl, tYes_i ?_⟩
      refine iteT ?_
      refine ⟨_, rfl, _, rfl, p, m, n, rfl, hW.same (s1.trans s2), G, hn, fun H2 s3 => ?_⟩
      refine ⟨_, s3 _ _ hD', ?_, ?_, same_upd (s2.trans s3) hD⟩
      · rw [List.length_map, List.length_take]
        exact small1000 (by omega)
      · rw [upd_same, take_snoc hv, List.map_append]
        rfl
    · rintro H2 ⟨hD', s2⟩
      rw [List.length_map, List.take_length] at hD'
      have hcs : H2 D = some (.lst ((ns'.map (costOf m)).map V.int)) := by
        rw [hD', List.map_map]
        rfl
      refine ⟨_, rfl, D, ns'.map (costOf m), rfl, SqL.of hcs, (by rw [List.length_map, hlen]; omega), fun mx hmx hmax => ?_⟩
      obtain ⟨j, hj1, hj2⟩ := first_at hmx
      obtain ⟨v, hv, ev⟩ := map_at hj1
      obtain ⟨n, rfl, hn⟩ := hmem v (mem_of_at hv)
      have hnl2 := s2 _ _ hn1
      refine ⟨_, rfl, _, rfl, .inl ⟨rfl, _, SqL.of hcs⟩, _, rfl, D, _, V.int mx, j, V.int mx, rfl, rfl, SqL.of hcs, rfl, ?_, ?_, ?_, ?_, ?_⟩
      · rw [List.all_eq_true]
        intro y hy
        obtain ⟨i, _, rfl⟩ := List.mem_map.mp hy
        rfl
      · rw [List.getElem?_map, hj1]
        rfl
      · show (mx == mx) = true
        exact beq_self_eq_true mx
      · intro i z' hi hz
        obtain ⟨c, hc, rfl⟩ := map_at hz
        show (c == mx) = false
        exact beq_eq_false_iff_ne.mpr (hj2 i c hi hc)
      refine ⟨nl, _, _, _, rfl, rfl, SqL.of hnl2, atI_nat (j := j) (v := V.int (n : Int)) (by rw [List.getElem?_map, hv]; rfl), _, rfl, (by show 2 ≤ sizeLine; decide), fun x hx => ?_⟩
      have cost : ∀ g : Nat, g ∈ m.faults.map (·.1) → costOf m (g : Int) = ((Kqb1.gain w g : Nat) : Int) := fun g hg => by
        rw [R.gain G hg]
        rfl
      have hw : Kqb1.worst w = some n := by
        refine R.worst_some hn (fun g hg => ?_) (fun g hg hlt => ?_)
        · have h3 := hmax (costOf m (g : Int)) (List.mem_map.mpr ⟨_, hmem2 g hg, rfl⟩)
          rw [ev, cost g hg, cost n hn] at h3
          omega
        · have h3 := hmax (costOf m (g : Int)) (List.mem_map.mpr ⟨_, hmem2 g hg, rfl⟩)
          obtain ⟨i, hi⟩ := List.getElem?_of_mem (hmem2 g hg)
          have hij : i < j := by
            refine Classical.byContradiction fun hc => ?_
            obtain ⟨l1, e1⟩ := List.getElem?_eq_some_iff.mp hi
            obtain ⟨l2, e2⟩ := List.getElem?_eq_some_iff.mp hv
            rw [List.pairwise_iff_getElem] at hsort
            rcases Nat.lt_or_ge j i with q | q
            · have := hsort j i l2 l1 q
              rw [e1, e2] at this
              omega
            · have : i = j := by omega
              subst this
              rw [e1] at e2
              omega
          have h4 := hj2 i (costOf m (g : Int)) hij (by rw [List.getElem?_map, hi]; rfl)
          rw [ev, cost g hg, cost n hn] at h3
          rw [ev, cost g hg, cost n hn] at h4
          omega
      refine k'.new (ans := .some_ (n : Int) [Kqb1.gain w n]) (by rw [step_worst, hw]) hT (s1.trans s2) hx ?_
      rw [ev, cost n hn]
      rfl
/-! ### metres -/
theorem count_bools (n : Nat) (f : Nat → Bool) : ((bools n f).countP fun z => eqV z (.bl true)) = ((List.range n).filter f).length := by
  unfold bools
  rw [List.countP_map, List.countP_eq_length_filter]
  congr 2
  funext i
  show (f i == true) = f i
  cases f i <;> rfl
theorem flat_bools (n : Nat) (f : Nat → Bool) : (bools n f).all flatV = true := by
  unfold bools
  rw [List.all_eq_true]
  intro y hy
  obtain ⟨i, _, rfl⟩ := List.mem_map.mp hy
  rfl
theorem scM6 : FnScope ["web", "every", "faulty", "stamped", "lane"] ["web"] (defScope (top 51)) := ⟨rfl, rfl, rfl, by decide +kernel, rfl, by decide +kernel, by decide +kernel⟩
theorem ok_metres (F : Fun K "metres" "metres" (top 51) f fd) (T : Txt K mg C) (G0 : Callee P w K mg base "taken_places" 1 ["web", "parts"] (spTaken C)) (G1 : Callee P w K mg base "taken_by_faults" 1 ["web", "lane"] (spPairs C takenF)) (G2 : Callee P w K mg base "taken_by_sheets" 1 ["web", "lane"] (spPairs C takenS)) : FnOk P w K mg base CX0 3 f fd ["web"] (spCmd0 C .metres) := by
  refine F.ok scM6 (fun vs H Q E h => ?_) (fun cdv A outer s H vs Q E hr h => ?_)
  · obtain ⟨p, w, rfl, _⟩ := h
    rfl
  · obtain ⟨p, w, rfl, hT, k'⟩ := h
    have hT' := hT
    obtain ⟨m, hW, R, G⟩ := hT'
    have hW' := hW
    obtain ⟨dx, tl, tw, df, ds, W⟩ := hW'
    have nd := scM6.nd
    refine ⟨_, (pss_cons (ps_set (i := 1) nd rfl (Or.inl rfl) (pe_op op_mul (pe_fld (pv 0) rfl) (pe_fld (pv 0) rfl)))
      (pss_cons (ps_set (i := 2) nd rfl (Or.inl rfl) pe_int)
      (pss_cons (ps_set (i := 3) nd rfl (Or.inl rfl) pe_int)
      (pss_cons (ps_for PassesOwn.never rfl (pi_range1 rfl T.brange (pa_cons (pe_fld (pv 0) rfl) pa_nil)) (pg_name (i := 4) nd rfl (Or.inl rfl))
      (pss_cons (ps_aug (i := 2) nd rfl (Or.inl rfl) (pe_bm PySem.F.plainAttrs_list PySem.F.slot_list_count PySem.F.type_list_count mt_countL (pe_fn G0 (hr.mono (by decide)) (pa_cons (pv 0) (pa_cons (pe_fn G1 (hr.mono (by decide)) (pa_cons (pv 0) (pa_cons (pv 4) pa_nil))) pa_nil))) (pa_cons pe_bl pa_nil)) ip_add)
        (pss_one (ps_aug (i := 3) nd rfl (Or.inl rfl) (pe_bm PySem.F.plainAttrs_list PySem.F.slot_list_count PySem.F.type_list_count mt_countL (pe_fn G0 (hr.mono (by decide)) (pa_cons (pv 0) (pa_cons (pe_fn G2 (hr.mono (by decide)) (pa_cons (pv 0) (pa_cons (pv 4) pa_nil))) pa_nil))) (pa_cons pe_bl pa_nil)) ip_add))))
      (pss_one (ps_ret (pe_lst (pa_cons (pv 1) (pa_cons (pe_op op_sub (pe_op op_sub (pv 1) (pv 2)) (pv 3)) (pa_cons (pv 2) (pa_cons (pv 3) pa_nil))))))))))), ?_⟩
    have hl3 := G.l3
    have h80 := G.n80
    refine ⟨_, rfl, p, C, dx, _, _, rfl, W.obj, T.cl, T.nlanes, rfl, _, rfl, p, C, dx, _, _, rfl, W.obj, T.cl, T.nlong, rfl, _, _, rfl, rfl, .inl ⟨?_, ?_⟩, ?_⟩
    · omega
    · omega
    refine ⟨_, rfl, p, C, dx, _, _, rfl, W.obj, T.cl, T.nlanes, rfl, _, rfl, by omega, by omega, ?_⟩
    refine for_range (lo := 0) (n := ((m.lanes : Nat) : Int).toNat) (fun i σ H' => (∃ v4, σ = [some (.ref p), some (.int ((m.lanes : Int) * (m.long : Int))), some (.int (((List.range i).map fun k => ((List.range m.long).filter (m.faulty k)).length).sum : Nat)), some (.int (((List.range i).map fun k => ((List.range m.long).filter (m.stamped k)).length).sum : Nat)), v4]) ∧ Same H H')
      ⟨⟨none, rfl⟩, Same.refl H⟩ ?_ ?_
    · rintro i σ H1 hi ⟨⟨v4, rfl⟩, s1⟩
      have e0 : (0 : Int) + (i : Int) = (i : Int) := Int.zero_add _
      dsimp only [gName]
      refine ⟨_, rfl, _, rfl, _, rfl, _, rfl, p, m, i, (by rw [Int.zero_add]; rfl), hW.same s1, G, fun H2 a1 s2 p1 => ?_⟩
      refine ⟨p, m, a1, _, rfl, (hW.same s1).same s2, G, p1, fun r hr => takenF_ends G hr, fun H3 b1 s3 hb1 => ?_⟩
      have ef : bools m.long (hit (takenF m i)) = bools m.long (m.faulty i) := bools_congr fun j _ => hit_faulty m i j
      rw [ef] at hb1
      refine ⟨.inl ⟨rfl, _, SqL.of hb1⟩, b1, _, _, rfl, rfl, SqL.of hb1, rfl, flat_bools _ _, _, _, rfl, rfl, ?_⟩
      rw [count_bools]
      have s13 := (s1.trans s2).trans s3
      refine ⟨_, rfl, _, rfl, _, rfl, _, rfl, p, m, i, (by rw [Int.zero_add]; rfl), hW.same s13, G, fun H4 a2 s4 p2 => ?_⟩
      refine ⟨p, m, a2, _, rfl, (hW.same s13).same s4, G, p2, fun r hr => takenS_ends G hr, fun H5 b2 s5 hb2 => ?_⟩
      have eg : bools m.long (hit (takenS m i)) = bools m.long (m.stamped i) := bools_congr fun j _ => hit_stamped m i j
      rw [eg] at hb2
      refine ⟨.inl ⟨rfl, _, SqL.of hb2⟩, b2, _, _, rfl, rfl, SqL.of hb2, rfl, flat_bools _ _, _, _, rfl, rfl, ?_⟩
      rw [count_bools]
      refine ⟨⟨some (.int (0 + (i : Int))), ?_⟩, (s13.trans s4).trans s5⟩
      rw [List.range_succ, List.map_append, List.map_append, List.sum_append, List.sum_append]
      rfl
    · rintro σ H1 ⟨⟨v4, rfl⟩, s1⟩
      rw [Int.toNat_natCast]
      refine ⟨_, rfl, _, rfl, _, rfl, _, _, rfl, rfl, _, rfl, _, _, rfl, rfl, _, rfl, _, rfl, (by show 4 ≤ sizeLine; decide), fun x hx => ?_⟩
      refine k'.new (step_metres w) hT s1 hx ?_
      rw [R.placesFree, R.placesFaulty, R.placesStamped, R.lanes, R.long]
      have hp := Fc.M.places_all G
      have e : (m.lanes : Int) * (m.long : Int) - ((m.places m.faulty : Nat) : Int) - ((m.places m.stamped : Nat) : Int) = ((m.places m.free : Nat) : Int) := by
        rw [← Int.natCast_mul, ← hp]
        omega
      show [V.int _, V.int ((m.lanes : Int) * (m.long : Int) - ((m.places m.faulty : Nat) : Int) - ((m.places m.stamped : Nat) : Int)), V.int ((m.places m.faulty : Nat) : Int), V.int ((m.places m.stamped : Nat) : Int)] = _
      rw [e]
      rfl
end
end Fw

end

section
set_option Elab.async false
set_option linter.all false
set_option maxRecDepth 100000
set_option maxHeartbeats 4000000
namespace Fw
open PySem PySem.Spec PyProof.Rows L2
open Kqb1 (Piece Sheet Web)
open Fc (M Rel Good Slots)
open Kqb1Neutral (tell asked1 callOf)

/-! ### a list that is handed in -/
section
variable {K : PySem.W.Frag} {H H' : Hp} {a g : Addr} {xs : List V}
theorem SqL_lists (h : SqL K H a xs) (l : Lists H H') : SqL K H' a xs := by
  rcases h with (h | ⟨o, h⟩) | h
  · exact .inl (.inl (l.lst _ _ h))
  · exact .inl (.inr ⟨o, l.frz _ _ _ h⟩)
  · exact .inr h
theorem SqL_apart (h : SqL K H a xs) (hg : H g = none) : (∀ H', SqL K H' a xs) ∨ a ≠ g := by
  rcases h with (h | ⟨o, h⟩) | h
  · exact .inr (ne_of_none h hg)
  · exact .inr (ne_of_none h hg)
  · exact .inl fun _ => .inr h
theorem SqL_after (hc : (∀ H', SqL K H' a xs) ∨ a ≠ g) (h : SqL K H a xs) (k : ∀ c o, H c = some o → c ≠ g → H' c = some o) : SqL K H' a xs := by
  rcases hc with hc | hc
  · exact hc _
  · rcases h with (h | ⟨o, h⟩) | h
    · exact .inl (.inl (k _ _ h hc))
    · exact .inl (.inr ⟨o, k _ _ h hc⟩)
    · exact .inr h
end
/-- what a turn ends with: the answer is told -/
theorem tail_ok {K : PySem.W.Frag} {D : Ends} {gv an : Addr} {s0 s1 s3 s4 s6 s7 : Option V} {b : V} {G ans : List Int} {H : Hp} (hg : H gv = some (.lst (G.map V.int))) (ha : H an = some (.lst (ans.map V.int))) (hne : an ≠ gv) (hl : G.length + 1 + ans.length ≤ 10000000)
    (hd : ∀ H' : Hp, H' gv = some (.lst ((G ++ ((ans.length : Int) :: ans)).map V.int)) → (∀ c o, H c = some o → c ≠ gv → H' c = some o) → D.nx [s0, s1, some (.ref gv), some b, s4, some b, s6, s7, some (.ref an)] H') :
    tSeq (tDrop (tBM K "list" rAppend (tVar 2) (tCons (tCB (fun xs H Q => ∃ p ys, xs = [.ref p] ∧ (SqL K H p ys ∨ SqT K H p ys) ∧ Q (.int ys.length) H) (tCons (tVar 8) tNil)) tNil)))
      (tSeq (tDrop (tBM K "list" rExtend (tVar 2) (tCons (tVar 8) tNil))) (tAsg (tVar 5) (gName 3))) D [s0, s1, some (.ref gv), s3, s4, some b, s6, s7, some (.ref an)] H := by
  have big : ∀ {n : Nat}, n ≤ 10000000 → n < sizeLine := fun h => Nat.lt_of_le_of_lt h (by decide)
  refine ⟨_, rfl, .inl ⟨rfl, _, SqL.of hg⟩, _, rfl, an, _, rfl, .inl (SqL.of ha), gv, _, _, rfl, rfl, hg, (by rw [List.length_map]; exact big (by omega)), ?_⟩
  refine ⟨_, rfl, .inl ⟨rfl, _, SqL.of upd_same⟩, _, rfl, gv, an, _, _, rfl, rfl, upd_same, (by rw [upd_ne hne]; exact ha), ?_, _, rfl, ?_⟩
  · rw [List.length_append, List.length_map, List.length_map]
    exact Nat.le_of_lt (big (by show G.length + 1 + ans.length ≤ _; omega))
  · refine hd _ ?_ fun c o e n => ?_
    · rw [upd_same, List.length_map, List.map_append, List.append_assoc]
      rfl
    · rw [upd_ne n, upd_ne n]
      exact e
/-- the web that a name holds -/
def Holds (C : Addr) (H : Hp) : Option Web → V → Prop
  | none, v => v = .non
  | some w, v => ∃ p, v = .ref p ∧ Told C H p w
theorem Holds.same {C : Addr} {H H' : Hp} (s : Same H H') : ∀ {st : Option Web} {v : V}, Holds C H st v → Holds C H' st v
  | none, _, h => h
  | some w, _, ⟨p, e, t⟩ => ⟨p, e, t.same s⟩
theorem Told.but {C p g : Addr} {H H' : Hp} {w : Web} {xs : List V} (h : Told C H p w) (hg : H g = some (.lst xs)) (k : ∀ c o, H c = some o → c ≠ g → H' c = some o) : Told C H' p w := by
  obtain ⟨m, ⟨dx, tl, tw, df, ds, W⟩, R, G⟩ := h
  have no : ∀ {b : Addr} {o : HO}, H b = some o → o ≠ .lst xs → H' b = some o := fun e d => k _ _ e (ne_of e hg d)
  refine ⟨m, ⟨dx, tl, tw, df, ds, no W.obj (by intro z; cases z), no W.len (by intro z; cases z), no W.wor (by intro z; cases z), ?_, ?_, W.ne⟩, R, G⟩
  · obtain ⟨fs, z⟩ := W.fau
    exact ⟨fs, z.eq, no z.at_ (by intro z; cases z), fun q hq => no (z.tup q hq) (by intro z; cases z)⟩
  · obtain ⟨fs, z⟩ := W.she
    exact ⟨fs, z.eq, no z.at_ (by intro z; cases z), fun q hq => no (z.tup q hq) (by intro z; cases z)⟩
theorem Holds.but {C g : Addr} {H H' : Hp} {xs : List V} (hg : H g = some (.lst xs)) (k : ∀ c o, H c = some o → c ≠ g → H' c = some o) : ∀ {st : Option Web} {v : V}, Holds C H st v → Holds C H' st v
  | none, _, h => h
  | some w, _, ⟨p, e, t⟩ => ⟨p, e, t.but hg k⟩
theorem cut_eq {ns : List Int} {i n : Nat} (h : i + 1 + n ≤ ns.length) : cutV (ns.map V.int) (some ((i : Int) + 1)) (some ((i : Int) + 1 + (n : Int))) = ((ns.drop (i + 1)).take n).map V.int := by
  unfold cutV
  have e1 : ((i : Int) + 1) = ((i + 1 : Nat) : Int) := rfl
  have e2 : ((i : Int) + 1 + (n : Int)) = ((i + 1 + n : Nat) : Int) := rfl
  rw [e2, e1, HT.sIx_nat, HT.sIx_nat, List.length_map, Nat.min_eq_left h, Nat.min_eq_left (show i + 1 ≤ ns.length by omega), show i + 1 + n - (i + 1) = n by omega, List.map_take, List.map_drop]
theorem okStart_iff {a b c d e g : Nat} : okStart a b c d e g = false ↔ (a = 0 ∨ 3 < a ∨ Kqb1.LONG < b ∨ c = 0 ∨ d ≤ c ∨ 60 < d ∨ 1000 < e ∨ 1000 < g) := by
  unfold okStart Kqb1.LONG
  constructor
  · intro h
    simp at h
    omega
  · intro h
    simp
    omega
theorem good_new {a b c d e g : Nat} (h : okStart a b c d e g = true) : Good (newM a b c d e g) ∧ Rel (newM a b c d e g) ⟨a, b, c, d, e, g, [], []⟩ := by
  have h' : ¬ (a = 0 ∨ 3 < a ∨ Kqb1.LONG < b ∨ c = 0 ∨ d ≤ c ∨ 60 < d ∨ 1000 < e ∨ 1000 < g) := fun z => by
    rw [okStart_iff.mpr z] at h
    cases h
  unfold Kqb1.LONG at h'
  refine ⟨⟨?_, ?_, ?_, ?_, ?_, ?_, ?_, ?_, Nat.zero_le _, Nat.zero_le _, (fun q hq => by cases hq), (fun q hq => by cases hq), (fun k i h => by cases h)⟩, ⟨rfl, rfl, rfl, rfl, rfl, rfl, Slots.nil, Slots.nil⟩⟩ <;> dsimp only [newM] <;> omega
theorem step_start (s : Option Web) (a b c d e g : Nat) : Kqb1.step s (.start a b c d e g) = if a = 0 ∨ 3 < a ∨ Kqb1.LONG < b ∨ c = 0 ∨ d ≤ c ∨ 60 < d ∨ 1000 < e ∨ 1000 < g then (s, .num (-22)) else (some ⟨a, b, c, d, e, g, [], []⟩, .num 0) := by
  cases s <;> rfl
section
variable {P : Program} {w : World} {K : PySem.W.Frag} {mg : Str → Option Value} {base : Heap} {C f : Addr} {fd : FuncData}
/-! ### answer's promise -/
def spAnswer (C : Addr) : Sp := fun vs H Q _ => ∃ (p nl : Addr) (w : Web) (c : Nat) (ns : List Int) (x : Kqb1.Call), vs = [.ref p, .int (c : Int), .ref nl] ∧ Told C H p w ∧ H nl = some (.lst (ns.map V.int)) ∧ c ≠ 0 ∧ c ≤ 19 ∧ asked1 [(c : Int) :: ns] = true ∧ callOf [(c : Int) :: ns] = some x ∧ Done C H p w x Q
/-! ### answers -/
structure Txt2 (K : PySem.W.Frag) (mg : Str → Option Value) (nb : Addr) : Prop where
  cSTART : ∃ t, mg "START" = some (.int 0 t)
  cNUMBERS_BEHIND : mg "NUMBERS_BEHIND" = some (.ref nb)
  tup : ∀ H, SqT K H nb (Fc.behind.map V.int)
def spAns (K : PySem.W.Frag) : Sp := fun vs H Q _ => ∃ (a : Addr) (ns : List Int), vs = [.ref a] ∧ SqL K H a (ns.map V.int) ∧ PyKqb1.answers_asked ns = true ∧ ∀ (H' : Hp) (g : Addr), H' g = some (.lst ((PyKqb1.answers ns).map V.int)) → Q (.ref g) H'
theorem scAns : FnScope ["calls", "web", "given", "at", "call", "behind", "numbers", "started", "answered"] ["calls"] (defScope (top 55)) := ⟨rfl, rfl, rfl, by decide +kernel, rfl, by decide +kernel, by decide +kernel⟩
theorem ok_answers {nb : Addr} (F : Fun K "answers" "answers" (top 55) f fd) (T : Txt K mg C) (T2 : Txt2 K mg nb) (G1 : Callee P w K mg base "started_web" 3 pMay (spStarted C)) {ka : Nat} (G2 : Callee P w K mg base "answer" (ka + 3) ["web", "call", "numbers"] (spAnswer C)) : FnOk P w K mg base CX0 (ka + 4) f fd ["calls"] (spAns K) := by
  refine F.ok scAns (fun vs H Q E h => ?_) (fun cdv A outer s H vs Q E hr h => ?_)
  · obtain ⟨a, ns, rfl, _⟩ := h
    rfl
  · obtain ⟨cl, ns, rfl, hS, hask, k'⟩ := h
    have nd := scAns.nd
    refine ⟨_, (pss_cons (ps_set (i := 1) nd rfl (Or.inl rfl) pe_non)
      (pss_cons (ps_set (i := 2) nd rfl (Or.inl rfl) (pe_lst pa_nil))
      (pss_cons (ps_set (i := 3) nd rfl (Or.inl rfl) pe_int)
      (pss_cons (ps_while PassesOwn.never (pt_cmpR op_lt (pv 3) (pe_callB call_len_seq (by rfl) T.blen PySem.boot_len (pa_cons (pv 0) pa_nil)) (nomark _))
      (pss_cons (ps_set (i := 4) nd rfl (Or.inl rfl) (pe_ix ix_list (pv 0) (pv 3) (fun _ _ => rfl)))
        (pss_cons (ps_set (i := 5) nd rfl (Or.inl rfl) (pe_op op_add (pe_op op_add (pv 3) pe_int) (pe_ix ix_tup (pe_gref T2.cNUMBERS_BEHIND) (pv 4) (fun _ _ => rfl))))
        (pss_cons (ps_set (i := 6) nd rfl (Or.inl rfl) (pe_slice sl_list (pv 0) (po_some (pe_op op_add (pv 3) pe_int)) (po_some (pv 5))))
        (pss_cons (ps_if (pt_cmpR op_eq (pv 4) (pe_gint T2.cSTART) (nomark _))
        (pss_cons (ps_set (i := 7) nd rfl (Or.inl rfl) (pe_fn G1 (hr.mono (Nat.le_add_left 3 ka)) (pa_cons (pe_ix ix_list (pv 6) pe_int (fun _ _ => rfl)) (pa_cons (pe_ix ix_list (pv 6) pe_int (fun _ _ => rfl)) (pa_cons (pe_ix ix_list (pv 6) pe_int (fun _ _ => rfl)) (pa_cons (pe_ix ix_list (pv 6) pe_int (fun _ _ => rfl)) (pa_cons (pe_ix ix_list (pv 6) pe_int (fun _ _ => rfl)) (pa_cons (pe_ix ix_list (pv 6) pe_int (fun _ _ => rfl)) pa_nil))))))))
          (pss_cons (ps_set (i := 8) nd rfl (Or.inl rfl) (pe_ifExp (pt_cmp (pc_isN (pv 7))) (pe_lst (pa_cons (pe_gint T.cWRONG) pa_nil)) (pe_lst (pa_cons pe_int pa_nil))))
          (pss_one (ps_set (i := 1) nd rfl (Or.inl rfl) (pe_ifExp (pt_cmp (pc_isN (pv 7))) (pv 1) (pv 7))))))
        (pss_one (ps_if (pt_cmp (pc_isN (pv 1)))
          (pss_one (ps_set (i := 8) nd rfl (Or.inl rfl) (pe_lst (pa_cons (pe_gint T.cNOT_STARTED) pa_nil))))
          (pss_one (ps_set (i := 8) nd rfl (Or.inl rfl) (pe_fn G2 hr (pa_cons (pv 1) (pa_cons (pv 4) (pa_cons (pv 6) pa_nil)))))))))
        (pss_cons (ps_expr (pe_bm PySem.F.plainAttrs_list PySem.F.slot_list_append PySem.F.type_list_append mt_append (pv 2) (pa_cons (pe_callB call_len_seq (by rfl) T.blen PySem.boot_len (pa_cons (pv 8) pa_nil)) pa_nil)))
        (pss_cons (ps_expr (pe_bm PySem.F.plainAttrs_list PySem.F.slot_list_extend PySem.F.type_list_extend mt_extend (pv 2) (pa_cons (pv 8) pa_nil)))
        (pss_one (ps_set (i := 3) nd rfl (Or.inl rfl) (pv 5))))))))))
      (pss_one (ps_ret (pv 2))))))), ?_⟩
    obtain ⟨A0, hlen⟩ := Fc.At.start hask
    refine ⟨Nat.zero_le _, fun gv hgv => ?_⟩
    have hap := SqL_apart hS hgv
    have hS0 : SqL K (upd H gv (.lst [])) cl (ns.map V.int) := (same_new hgv).seq hS
    refine while_by (fun σ H' => ∃ (i : Nat) (st : Option Web) (given : List Int) (wv : V) (v4 v5 v6 v7 v8 : Option V), σ = [some (.ref cl), some wv, some (.ref gv), some (.int i), v4, v5, v6, v7, v8] ∧ SqL K H' cl (ns.map V.int) ∧ H' gv = some (.lst (given.map V.int)) ∧ Fc.At ns i st given ∧ Holds C H' st wv)
      (fun σ _ => match σ with | [_, _, _, some (.int i), _, _, _, _, _] => ns.length - i.toNat | _ => 0) ⟨0, none, [], .non, none, none, none, none, none, rfl, hS0, upd_same, A0, rfl⟩ ?_ ?_
    · rintro σ H1 ⟨i, st, given, wv, v4, v5, v6, v7, v8, rfl, hS1, hg1, A1, hw1⟩
      refine ⟨_, rfl, _, rfl, cl, _, rfl, .inl hS1, _, _, rfl, rfl, _, rfl, ?_⟩
      rw [List.length_map]
      refine ite2 (fun h1 => ?_) (fun h1 => ?_)
      · have h1 : i < ns.length := by
          have := of_decide_eq_true h1
          omega
        obtain ⟨p, n, hp, hp0, hp19, hbh, hle, hasked, A2⟩ := A1.next h1
        obtain ⟨c, rfl⟩ : ∃ c : Nat, p = (c : Int) := ⟨p.toNat, by omega⟩
        refine ⟨_, rfl, _, rfl, cl, _, _, _, rfl, rfl, hS1, atI_nat (j := i) (v := V.int (c : Int)) (by rw [List.getElem?_map, hp]; rfl), ?_⟩
        refine ⟨_, rfl, _, _, rfl, rfl, _, rfl, nb, _, _, _, rfl, rfl, T2.tup _, atI_nat (j := c) (v := V.int (n : Int)) (by rw [List.getElem?_map, show Fc.behind[c]? = some (n : Int) from hbh]; rfl), _, _, rfl, rfl, ?_⟩
        refine ⟨_, rfl, _, rfl, _, _, rfl, rfl, _, rfl, _, rfl, _, rfl, cl, _, rfl, hS1, fun nl hnl => ?_⟩
        rw [cut_eq hle]
        have s2 : Same H1 (upd H1 nl (.lst (((ns.drop (i + 1)).take n).map V.int))) := same_new hnl
        have hS2 := s2.seq hS1
        have hg2 := s2 _ _ hg1
        have hw2 : Holds C _ st wv := hw1.same s2
        have hnl2 : (upd H1 nl (.lst (((ns.drop (i + 1)).take n).map V.int))) nl = some (.lst (((ns.drop (i + 1)).take n).map V.int)) := upd_same
        generalize upd H1 nl (.lst (((ns.drop (i + 1)).take n).map V.int)) = H2 at s2 hS2 hg2 hw2 hnl2
        generalize (ns.drop (i + 1)).take n = ar at hasked A2 hnl2
        -- the turn's end, whatever was answered
        have len5 : given.length + 1 + (Kqb1Neutral.step st [(c : Int) :: ar]).2.length ≤ 10000000 := by
          have := A2.len
          rw [List.length_append, List.length_cons] at this
          omega
        have fin : ∀ (H5 H6 : Hp) (wv' : V) (v7' v8' : Option V), SqL K H5 cl (ns.map V.int) → H5 gv = some (.lst (given.map V.int)) → Holds C H5 (Kqb1Neutral.step st [(c : Int) :: ar]).1 wv' → H6 gv = some (.lst ((given ++ (((Kqb1Neutral.step st [(c : Int) :: ar]).2.length : Int) :: (Kqb1Neutral.step st [(c : Int) :: ar]).2)).map V.int)) → (∀ c o, H5 c = some o → c ≠ gv → H6 c = some o) →
            (∃ (i' : Nat) (st : Option Web) (given : List Int) (wv : V) (v4 v5 v6 v7 v8 : Option V), ([some (.ref cl), some wv', some (.ref gv), some (.int ((i + 1 + n : Nat) : Int)), some (.int c), some (.int ((i + 1 + n : Nat) : Int)), some (.ref nl), v7', v8'] : L2.St) = [some (.ref cl), some wv, some (.ref gv), some (.int i'), v4, v5, v6, v7, v8] ∧ SqL K H6 cl (ns.map V.int) ∧ H6 gv = some (.lst (given.map V.int)) ∧ Fc.At ns i' st given ∧ Holds C H6 st wv) ∧ ns.length - ((i + 1 + n : Nat) : Int).toNat < ns.length - ((i : Nat) : Int).toNat := fun H5 H6 wv' v7' v8' q1 q2 q5 r1 r2 =>
          ⟨⟨i + 1 + n, _, _, wv', _, _, _, _, _, rfl, SqL_after hap q1 r2, r1, A2, q5.but q2 r2⟩, by omega⟩
        dsimp only [gName]
        refine Det.seq (b := decide (c = 0)) (fun Q q => ⟨_, rfl, rfl, _, rfl, dq q (by rw [vint]; omega)⟩) (fun h2 => ?_) (fun h2 => ?_)
        · have h2 := of_decide_eq_true h2
          subst h2
          obtain ⟨a0, b0, c0, d0, e0, g0, rfl⟩ := Fc.asked_start hasked
          have es : Kqb1Neutral.step st [[((0 : Nat) : Int), (a0 : Int), (b0 : Int), (c0 : Int), (d0 : Int), (e0 : Int), (g0 : Int)]] = ((Kqb1.step st (.start a0 b0 c0 d0 e0 g0)).1, tell (Kqb1.step st (.start a0 b0 c0 d0 e0 g0)).2) := Fc.step_of rfl st
          rw [step_start] at es
          refine ⟨_, rfl, nl, _, _, _, rfl, rfl, SqL.of hnl2, rfl, _, rfl, nl, _, _, _, rfl, rfl, SqL.of hnl2, rfl, _, rfl, nl, _, _, _, rfl, rfl, SqL.of hnl2, rfl, _, rfl, nl, _, _, _, rfl, rfl, SqL.of hnl2, rfl, _, rfl, nl, _, _, _, rfl, rfl, SqL.of hnl2, rfl, _, rfl, nl, _, _, _, rfl, rfl, SqL.of hnl2, rfl, a0, b0, c0, d0, e0, g0, rfl, fun hf => ?_, fun ht H3 p3 s3 is3 => ?_⟩
          · rw [if_pos (okStart_iff.mp hf)] at es
            refine ⟨_, rfl, _, rfl, iteY rfl ⟨(by show 1 ≤ sizeLine; decide), fun an han => ?_⟩⟩
            refine ⟨_, rfl, _, rfl, iteY rfl ⟨_, rfl, ?_⟩⟩
            have s5 : Same H2 (upd H2 an (.lst [.int (-22)])) := same_new han
            refine tail_ok (K := K) (s5 _ _ hg2) (by rw [upd_same]; rfl) (ne_of_none hg2 han).symm (ans := [-22]) (by rw [es] at len5; exact len5) fun H6 r1 r2 => ?_
            rw [es] at fin
            exact fin _ H6 wv _ _ (s5.seq hS2) (s5 _ _ hg2) (hw2.same s5) r1 r2
          · have hg := good_new ht
            rw [if_neg (fun z => by rw [okStart_iff.mpr z] at ht; cases ht)] at es
            have hn3 : ¬ V.ref p3 = V.non := by intro z; cases z
            refine ⟨_, rfl, _, rfl, iteN hn3 ⟨(by show 1 ≤ sizeLine; decide), fun an han => ?_⟩⟩
            refine ⟨_, rfl, _, rfl, iteN hn3 ⟨_, rfl, ?_⟩⟩
            have s5 : Same H3 (upd H3 an (.lst [.int 0])) := same_new han
            have hg3 := s3 _ _ hg2
            refine tail_ok (K := K) (s5 _ _ hg3) (by rw [upd_same]; rfl) (ne_of_none hg3 han).symm (ans := [0]) (by rw [es] at len5; exact len5) fun H6 r1 r2 => ?_
            rw [es] at fin
            exact fin _ H6 (.ref p3) _ _ (s5.seq (s3.seq hS2)) (s5 _ _ hg3) ⟨p3, rfl, _, is3.same s5, hg.2, hg.1⟩ r1 r2
        · have h2 := of_decide_eq_false h2
          obtain ⟨x, hx, hst⟩ := Fc.asked_nat (k := c) (by omega) hasked
          have es := Fc.step_of hx st
          cases st with
          | none =>
            have hwv : wv = .non := hw2
            subst hwv
            rw [hst h2] at es
            refine ⟨_, rfl, _, rfl, iteY rfl ⟨(by show 1 ≤ sizeLine; decide), fun an han => ?_⟩⟩
            have s5 : Same H2 (upd H2 an (.lst [.int (-11)])) := same_new han
            refine tail_ok (K := K) (s5 _ _ hg2) (by rw [upd_same]; rfl) (ne_of_none hg2 han).symm (ans := [-11]) (by rw [es] at len5; exact len5) fun H6 r1 r2 => ?_
            rw [es] at fin
            exact fin _ H6 .non _ _ (s5.seq hS2) (s5 _ _ hg2) rfl r1 r2
          | some w0 =>
            obtain ⟨p0, rfl, t0⟩ := hw2
            refine ⟨_, rfl, _, rfl, iteN (by intro z; cases z) ?_⟩
            refine ⟨_, rfl, _, rfl, _, rfl, p0, nl, w0, c, ar, x, rfl, t0, hnl2, h2, (by omega), hasked, hx, fun H3 an w' l3 hna e1 t3 ha => ?_⟩
            have hg3 := l3.lst _ _ hg2
            refine tail_ok (K := K) hg3 ha (ne_of_none hg2 hna).symm (by rw [es] at len5; exact len5) fun H6 r1 r2 => ?_
            rw [es] at fin
            refine fin _ H6 (.ref p0) _ _ (SqL_lists hS2 l3) hg3 ?_ r1 r2
            rw [e1]
            exact ⟨p0, rfl, t3⟩
      · have h1 : ns.length ≤ i := by
          have : ¬ (i : Int) < (ns.length : Int) := fun z => h1 (decide_eq_true z)
          omega
        have e := A1.last h1
        rw [e] at hg1
        exact ⟨_, rfl, k' _ gv hg1⟩
    · rintro σ H Q Q' imp ⟨v, h1, v2, h2, a, ys, h3, h4, x, y, h5, h6, c, h7, h8⟩
      exact ⟨v, h1, v2, h2, a, ys, h3, h4, x, y, h5, h6, c, h7, imp _ _ h8⟩
end
end Fw

end

section
set_option Elab.async false
set_option linter.all false
set_option maxRecDepth 100000
set_option maxHeartbeats 4000000
namespace Fw
open PySem PySem.Spec PyProof.Rows L2
open Kqb1 (Piece Sheet Web)
open Fc (M Rel Good Slots)
open Kqb1Neutral (tell asked1 callOf natural)
open Fc (list0 list1 list3)
/-! ### the table of the calls -/
structure TxtD (P : Program) (w : World) (K : PySem.W.Frag) (mg : Str → Option Value) (d : Addr) (kvs : List (Key × Value)) : Prop where
  at_ : mg "ANSWERED_BY" = some (.ref d)
  tab : TabIs P w K d kvs
  v1 : ∃ f, mg "coat" = some (.ref f) ∧ valueAt kvs (Sum.inl 1) = some (.ref f)
  v2 : ∃ f, mg "fault" = some (.ref f) ∧ valueAt kvs (Sum.inl 2) = some (.ref f)
  v3 : ∃ f, mg "mend" = some (.ref f) ∧ valueAt kvs (Sum.inl 3) = some (.ref f)
  v4 : ∃ f, mg "stretches" = some (.ref f) ∧ valueAt kvs (Sum.inl 4) = some (.ref f)
  v5 : ∃ f, mg "best" = some (.ref f) ∧ valueAt kvs (Sum.inl 5) = some (.ref f)
  v6 : ∃ f, mg "plan" = some (.ref f) ∧ valueAt kvs (Sum.inl 6) = some (.ref f)
  v7 : ∃ f, mg "worth" = some (.ref f) ∧ valueAt kvs (Sum.inl 7) = some (.ref f)
  v8 : ∃ f, mg "total" = some (.ref f) ∧ valueAt kvs (Sum.inl 8) = some (.ref f)
  v9 : ∃ f, mg "alone" = some (.ref f) ∧ valueAt kvs (Sum.inl 9) = some (.ref f)
  v10 : ∃ f, mg "fits" = some (.ref f) ∧ valueAt kvs (Sum.inl 10) = some (.ref f)
  v11 : ∃ f, mg "next_place" = some (.ref f) ∧ valueAt kvs (Sum.inl 11) = some (.ref f)
  v12 : ∃ f, mg "stamp" = some (.ref f) ∧ valueAt kvs (Sum.inl 12) = some (.ref f)
  v13 : ∃ f, mg "follow" = some (.ref f) ∧ valueAt kvs (Sum.inl 13) = some (.ref f)
  v14 : ∃ f, mg "lift" = some (.ref f) ∧ valueAt kvs (Sum.inl 14) = some (.ref f)
  v15 : ∃ f, mg "gain" = some (.ref f) ∧ valueAt kvs (Sum.inl 15) = some (.ref f)
  v16 : ∃ f, mg "worst" = some (.ref f) ∧ valueAt kvs (Sum.inl 16) = some (.ref f)
  v17 : ∃ f, mg "sheet" = some (.ref f) ∧ valueAt kvs (Sum.inl 17) = some (.ref f)
  v18 : ∃ f, mg "metres" = some (.ref f) ∧ valueAt kvs (Sum.inl 18) = some (.ref f)
  v19 : ∃ f, mg "state" = some (.ref f) ∧ valueAt kvs (Sum.inl 19) = some (.ref f)
section
variable {P : Program} {w : World} {K : PySem.W.Frag} {mg : Str → Option Value} {base : Heap} {C f : Addr} {fd : FuncData}
/-- the def that a call's number leads to, and its numbers -/
def Way (P : Program) (w : World) (K : PySem.W.Frag) (mg : Str → Option Value) (base : Heap) (C : Addr) (kvs : List (Key × Value)) (c : Int) (ns : List Int) (x : Kqb1.Call) : Prop :=
  ∃ (f : Addr) (fd : FuncData) (k : Nat) (ps : List Str) (sp : Sp), k ≤ 8 ∧ valueAt kvs (Sum.inl c) = some (.ref f) ∧ PySem.W.keepIn K (.ref f) = true ∧ Binds K fd ps [] ∧ FnOk P w K mg base CX0 k f fd ps sp ∧
    ((ns = [] ∧ sp = spCmd0 C x) ∨ (∃ (a : Nat) (cmd : Nat → Kqb1.Call), ns = [(a : Int)] ∧ x = cmd a ∧ sp = spCmd1 C cmd) ∨ ∃ (a b d : Nat) (cmd : Nat → Nat → Nat → Kqb1.Call), ns = [(a : Int), (b : Int), (d : Int)] ∧ x = cmd a b d ∧ sp = spCmd3 C cmd)
theorem way_of {kvs : List (Key × Value)} {c : Int} {ns : List Int} {x : Kqb1.Call} {name : Str} {k : Nat} {ps : List Str} {sp : Sp} (G : Callee P w K mg base name k ps sp) (hk : k ≤ 8) (hv : ∃ f, mg name = some (.ref f) ∧ valueAt kvs (Sum.inl c) = some (.ref f))
    (h : (ns = [] ∧ sp = spCmd0 C x) ∨ (∃ (a : Nat) (cmd : Nat → Kqb1.Call), ns = [(a : Int)] ∧ x = cmd a ∧ sp = spCmd1 C cmd) ∨ ∃ (a b d : Nat) (cmd : Nat → Nat → Nat → Kqb1.Call), ns = [(a : Int), (b : Int), (d : Int)] ∧ x = cmd a b d ∧ sp = spCmd3 C cmd) : Way P w K mg base C kvs c ns x := by
  obtain ⟨f, fd, h1, h2, h3, h4⟩ := G
  obtain ⟨f', e1, e2⟩ := hv
  have e := Option.some.inj (h1.symm.trans e1)
  injection e with e
  subst e
  exact ⟨f, fd, k, ps, sp, hk, e2, h2, h3, h4, h⟩
theorem way {d : Addr} {kvs : List (Key × Value)} (D : TxtD P w K mg d kvs) (G1 : Callee P w K mg base "coat" 1 ["web", "n"] (spCmd1 C .coat)) (G2 : Callee P w K mg base "fault" 3 ["web", "lane", "begin", "end"] (spCmd3 C .fault)) (G3 : Callee P w K mg base "mend" 1 ["web", "f"] (spCmd1 C .mend)) (G4 : Callee P w K mg base "stretches" 4 ["web", "lane"] (spCmd1 C .stretches)) (G5 : Callee P w K mg base "best" 2 ["web", "s"] (spCmd1 C .best)) (G6 : Callee P w K mg base "plan" 5 ["web", "lane"] (spCmd1 C .plan)) (G7 : Callee P w K mg base "worth" 6 ["web", "lane"] (spCmd1 C .worth)) (G8 : Callee P w K mg base "total" 7 ["web"] (spCmd0 C .total)) (G9 : Callee P w K mg base "alone" 4 ["web", "size"] (spCmd1 C .alone)) (G10 : Callee P w K mg base "fits" 5 ["web", "lane", "begin", "size"] (spCmd3 C .fits)) (G11 : Callee P w K mg base "next_place" 5 ["web", "lane", "begin", "size"] (spCmd3 C .next)) (G12 : Callee P w K mg base "stamp" 5 ["web", "lane", "begin", "size"] (spCmd3 C .stamp)) (G13 : Callee P w K mg base "follow" 5 ["web", "lane"] (spCmd1 C .follow)) (G14 : Callee P w K mg base "lift" 1 ["web", "s"] (spCmd1 C .lift)) (G15 : Callee P w K mg base "gain" 8 ["web", "f"] (spCmd1 C .gain)) (G16 : Callee P w K mg base "worst" 8 ["web"] (spCmd0 C .worst)) (G17 : Callee P w K mg base "sheet" 1 ["web", "s"] (spCmd1 C .sheet)) (G18 : Callee P w K mg base "metres" 3 ["web"] (spCmd0 C .metres)) (G19 : Callee P w K mg base "state" 1 ["web"] (spCmd0 C .state)) : ∀ {c : Nat} {ns : List Int} {x : Kqb1.Call}, c ≠ 0 → c ≤ 19 → asked1 [(c : Int) :: ns] = true → callOf [(c : Int) :: ns] = some x → Way P w K mg base C kvs (c : Int) ns x
  | 0, _, _, h0, _, _, _ => absurd rfl h0
  | 1, ns, x, _, _, hask, hx => by
    obtain ⟨a, rfl⟩ := list1 hask rfl (fun _ _ _ => rfl) (fun _ => rfl)
    exact way_of G1 (by decide) D.v1 (.inr (.inl ⟨a, _, rfl, (Option.some.inj (show some (Kqb1.Call.coat a) = some x from hx)).symm, rfl⟩))
  | 2, ns, x, _, _, hask, hx => by
    obtain ⟨a, b, d, rfl⟩ := list3 hask rfl (fun _ => rfl) (fun _ _ => rfl) (fun _ _ _ _ _ => rfl) (fun _ _ _ => rfl)
    exact way_of G2 (by decide) D.v2 (.inr (.inr ⟨a, b, d, _, rfl, (Option.some.inj (show some (Kqb1.Call.fault a b d) = some x from hx)).symm, rfl⟩))
  | 3, ns, x, _, _, hask, hx => by
    obtain ⟨a, rfl⟩ := list1 hask rfl (fun _ _ _ => rfl) (fun _ => rfl)
    exact way_of G3 (by decide) D.v3 (.inr (.inl ⟨a, _, rfl, (Option.some.inj (show some (Kqb1.Call.mend a) = some x from hx)).symm, rfl⟩))
  | 4, ns, x, _, _, hask, hx => by
    obtain ⟨a, rfl⟩ := list1 hask rfl (fun _ _ _ => rfl) (fun _ => rfl)
    exact way_of G4 (by decide) D.v4 (.inr (.inl ⟨a, _, rfl, (Option.some.inj (show some (Kqb1.Call.stretches a) = some x from hx)).symm, rfl⟩))
  | 5, ns, x, _, _, hask, hx => by
    obtain ⟨a, rfl⟩ := list1 hask rfl (fun _ _ _ => rfl) (fun _ => rfl)
    exact way_of G5 (by decide) D.v5 (.inr (.inl ⟨a, _, rfl, (Option.some.inj (show some (Kqb1.Call.best a) = some x from hx)).symm, rfl⟩))
  | 6, ns, x, _, _, hask, hx => by
    obtain ⟨a, rfl⟩ := list1 hask rfl (fun _ _ _ => rfl) (fun _ => rfl)
    exact way_of G6 (by decide) D.v6 (.inr (.inl ⟨a, _, rfl, (Option.some.inj (show some (Kqb1.Call.plan a) = some x from hx)).symm, rfl⟩))
  | 7, ns, x, _, _, hask, hx => by
    obtain ⟨a, rfl⟩ := list1 hask rfl (fun _ _ _ => rfl) (fun _ => rfl)
    exact way_of G7 (by decide) D.v7 (.inr (.inl ⟨a, _, rfl, (Option.some.inj (show some (Kqb1.Call.worth a) = some x from hx)).symm, rfl⟩))
  | 8, ns, x, _, _, hask, hx => by
    have en := list0 hask (fun _ _ => rfl)
    subst en
    have e : x = .total := (Option.some.inj (show some Kqb1.Call.total = some x from hx)).symm
    subst e
    exact way_of G8 (by decide) D.v8 (.inl ⟨rfl, rfl⟩)
  | 9, ns, x, _, _, hask, hx => by
    obtain ⟨a, rfl⟩ := list1 hask rfl (fun _ _ _ => rfl) (fun _ => rfl)
    exact way_of G9 (by decide) D.v9 (.inr (.inl ⟨a, _, rfl, (Option.some.inj (show some (Kqb1.Call.alone a) = some x from hx)).symm, rfl⟩))
  | 10, ns, x, _, _, hask, hx => by
    obtain ⟨a, b, d, rfl⟩ := list3 hask rfl (fun _ => rfl) (fun _ _ => rfl) (fun _ _ _ _ _ => rfl) (fun _ _ _ => rfl)
    exact way_of G10 (by decide) D.v10 (.inr (.inr ⟨a, b, d, _, rfl, (Option.some.inj (show some (Kqb1.Call.fits a b d) = some x from hx)).symm, rfl⟩))
  | 11, ns, x, _, _, hask, hx => by
    obtain ⟨a, b, d, rfl⟩ := list3 hask rfl (fun _ => rfl) (fun _ _ => rfl) (fun _ _ _ _ _ => rfl) (fun _ _ _ => rfl)
    exact way_of G11 (by decide) D.v11 (.inr (.inr ⟨a, b, d, _, rfl, (Option.some.inj (show some (Kqb1.Call.next a b d) = some x from hx)).symm, rfl⟩))
  | 12, ns, x, _, _, hask, hx => by
    obtain ⟨a, b, d, rfl⟩ := list3 hask rfl (fun _ => rfl) (fun _ _ => rfl) (fun _ _ _ _ _ => rfl) (fun _ _ _ => rfl)
    exact way_of G12 (by decide) D.v12 (.inr (.inr ⟨a, b, d, _, rfl, (Option.some.inj (show some (Kqb1.Call.stamp a b d) = some x from hx)).symm, rfl⟩))
  | 13, ns, x, _, _, hask, hx => by
    obtain ⟨a, rfl⟩ := list1 hask rfl (fun _ _ _ => rfl) (fun _ => rfl)
    exact way_of G13 (by decide) D.v13 (.inr (.inl ⟨a, _, rfl, (Option.some.inj (show some (Kqb1.Call.follow a) = some x from hx)).symm, rfl⟩))
  | 14, ns, x, _, _, hask, hx => by
    obtain ⟨a, rfl⟩ := list1 hask rfl (fun _ _ _ => rfl) (fun _ => rfl)
    exact way_of G14 (by decide) D.v14 (.inr (.inl ⟨a, _, rfl, (Option.some.inj (show some (Kqb1.Call.lift a) = some x from hx)).symm, rfl⟩))
  | 15, ns, x, _, _, hask, hx => by
    obtain ⟨a, rfl⟩ := list1 hask rfl (fun _ _ _ => rfl) (fun _ => rfl)
    exact way_of G15 (by decide) D.v15 (.inr (.inl ⟨a, _, rfl, (Option.some.inj (show some (Kqb1.Call.gain a) = some x from hx)).symm, rfl⟩))
  | 16, ns, x, _, _, hask, hx => by
    have en := list0 hask (fun _ _ => rfl)
    subst en
    have e : x = .worst := (Option.some.inj (show some Kqb1.Call.worst = some x from hx)).symm
    subst e
    exact way_of G16 (by decide) D.v16 (.inl ⟨rfl, rfl⟩)
  | 17, ns, x, _, _, hask, hx => by
    obtain ⟨a, rfl⟩ := list1 hask rfl (fun _ _ _ => rfl) (fun _ => rfl)
    exact way_of G17 (by decide) D.v17 (.inr (.inl ⟨a, _, rfl, (Option.some.inj (show some (Kqb1.Call.sheet a) = some x from hx)).symm, rfl⟩))
  | 18, ns, x, _, _, hask, hx => by
    have en := list0 hask (fun _ _ => rfl)
    subst en
    have e : x = .metres := (Option.some.inj (show some Kqb1.Call.metres = some x from hx)).symm
    subst e
    exact way_of G18 (by decide) D.v18 (.inl ⟨rfl, rfl⟩)
  | 19, ns, x, _, _, hask, hx => by
    have en := list0 hask (fun _ _ => rfl)
    subst en
    have e : x = .state := (Option.some.inj (show some Kqb1.Call.state = some x from hx)).symm
    subst e
    exact way_of G19 (by decide) D.v19 (.inl ⟨rfl, rfl⟩)
  | c + 20, _, _, _, h, _, _ => absurd h (by omega)
theorem scAnswer : FnScope ["web", "call", "numbers"] ["web", "call", "numbers"] (defScope (top 54)) := ⟨rfl, rfl, rfl, by decide +kernel, rfl, by decide +kernel, by decide +kernel⟩
theorem ok_answer {d : Addr} {kvs : List (Key × Value)} (F : Fun K "answer" "answer" (top 54) f fd) (T : Txt K mg C) (D : TxtD P w K mg d kvs) (wy : ∀ {c : Nat} {ns : List Int} {x : Kqb1.Call}, c ≠ 0 → c ≤ 19 → asked1 [(c : Int) :: ns] = true → callOf [(c : Int) :: ns] = some x → Way P w K mg base C kvs (c : Int) ns x) : FnOk P w K mg base CX0 9 f fd ["web", "call", "numbers"] (spAnswer C) := by
  refine F.ok scAnswer (fun vs H Q E h => ?_) (fun cdv A outer s H vs Q E hr h => ?_)
  · obtain ⟨p, nl, w, c, ns, x, rfl, _⟩ := h
    rfl
  · obtain ⟨p, nl, w, c, ns, x, rfl, hT, hnl, hc0, hc19, hask, hx, k'⟩ := h
    obtain ⟨f, fd, k, ps, sp, hk, hv, h2, h3, h4, hs⟩ := wy hc0 hc19 hask hx
    refine ⟨_, (pss_cons (ps_if (pt_cmpR op_eq (pe_callB call_len_seq (by rfl) T.blen PySem.boot_len (pa_cons (pv 2) pa_nil)) pe_int (nomark _)) (pss_one (ps_ret (pe_callV (pe_tab D.at_ D.tab (pv 1) (fun _ _ => rfl)) (pa_cons (pv 0) pa_nil)))) pss_nil)
      (pss_cons (ps_if (pt_cmpR op_eq (pe_callB call_len_seq (by rfl) T.blen PySem.boot_len (pa_cons (pv 2) pa_nil)) pe_int (nomark _)) (pss_one (ps_ret (pe_callV (pe_tab D.at_ D.tab (pv 1) (fun _ _ => rfl)) (pa_cons (pv 0) (pa_cons (pe_ix ix_list (pv 2) pe_int (fun _ _ => rfl)) pa_nil))))) pss_nil)
      (pss_one (ps_ret (pe_callV (pe_tab D.at_ D.tab (pv 1) (fun _ _ => rfl)) (pa_cons (pv 0) (pa_cons (pe_ix ix_list (pv 2) pe_int (fun _ _ => rfl)) (pa_cons (pe_ix ix_list (pv 2) pe_int (fun _ _ => rfl)) (pa_cons (pe_ix ix_list (pv 2) pe_int (fun _ _ => rfl)) pa_nil))))))))), ?_⟩
    refine Det.seqN (b := decide (ns.length = 0)) (fun Q q => ⟨_, rfl, nl, _, rfl, .inl (SqL.of hnl), rfl, _, rfl, dq q (by rw [vint, List.length_map]; omega)⟩) (fun e1 => ?_) (fun e1 => ?_)
    · have e1 := of_decide_eq_true e1
      rcases hs with ⟨rfl, rfl⟩ | ⟨a, cmd, rfl, rfl, rfl⟩ | ⟨a, b, d', cmd, rfl, rfl, rfl⟩
      · exact ⟨_, rfl, (c : Int), f, rfl, hv, f, fd, k, ps, _, rfl, h2, h3, h4, hr.mono hk, _, rfl, p, w, rfl, hT, k'⟩
      · exact absurd e1 (by simp)
      · exact absurd e1 (by simp)
    have e1 := of_decide_eq_false e1
    refine Det.seqN (b := decide (ns.length = 1)) (fun Q q => ⟨_, rfl, nl, _, rfl, .inl (SqL.of hnl), rfl, _, rfl, dq q (by rw [vint, List.length_map]; omega)⟩) (fun e2 => ?_) (fun e2 => ?_)
    · have e2 := of_decide_eq_true e2
      rcases hs with ⟨rfl, rfl⟩ | ⟨a, cmd, rfl, rfl, rfl⟩ | ⟨a, b, d', cmd, rfl, rfl, rfl⟩
      · exact absurd e2 (by simp)
      · exact ⟨_, rfl, (c : Int), f, rfl, hv, f, fd, k, ps, _, rfl, h2, h3, h4, hr.mono hk, _, rfl, _, rfl, nl, _, _, _, rfl, rfl, SqL.of hnl, rfl, p, w, a, rfl, hT, k'⟩
      · exact absurd e2 (by simp)
    have e2 := of_decide_eq_false e2
    rcases hs with ⟨rfl, rfl⟩ | ⟨a, cmd, rfl, rfl, rfl⟩ | ⟨a, b, d', cmd, rfl, rfl, rfl⟩
    · exact absurd rfl e1
    · exact absurd rfl e2
    · exact ⟨_, rfl, (c : Int), f, rfl, hv, f, fd, k, ps, _, rfl, h2, h3, h4, hr.mono hk, _, rfl, _, rfl, nl, _, _, _, rfl, rfl, SqL.of hnl, rfl, _, rfl, nl, _, _, _, rfl, rfl, SqL.of hnl, rfl, _, rfl, nl, _, _, _, rfl, rfl, SqL.of hnl, rfl, p, w, a, b, d', rfl, hT, k'⟩
end
end Fw

end

section
set_option Elab.async false
set_option linter.all false
set_option maxRecDepth 100000
set_option maxHeartbeats 4000000
namespace Fw
open PySem PySem.Spec PyProof.Rows L2
open Kqb1 (Piece Sheet Web)
open Fc (M Rel Good Slots)
open PySem.W (Codec)
/-! ### what the top has written -/
abbrev kof {K : PySem.W.Frag} {h : Heap} (_ : K.In h) : PySem.W.Frag := K
def DefIs (K : PySem.W.Frag) (mg : Str → Option Value) (x : Str) (st : Stmt) : Prop := ∃ f fd, mg x = some (.ref f) ∧ Fun K x x st f fd
theorem def_mk {K : PySem.W.Frag} {h : Heap} {mg : Str → Option Value} {x : Str} {st : Stmt} {f : Addr} {oc : Value} {od an : Option Addr} {osl : Array (Option Value)} {kV doc pm cdv ct : Value} (X : K.In h) (G : h.Ns mainGlobals mg)
    (a : PySem.W.nsIn K mainGlobals x = some (some (.ref f))) (l : K.lookup f = some ⟨oc, od, .func (PySem.W.fnOf x x (defArgs st) (defBody st) (defScope st) .none kV doc pm an cdv ct), osl⟩) (c : PySem.W.codeIn K cdv x = true) (k : PySem.W.keepIn K (.ref f) = true) : DefIs K mg x st :=
  ⟨f, _, PySem.W.mg_of X G a, fun_mk l c k⟩
theorem int_mk {K : PySem.W.Frag} {h : Heap} {mg : Str → Option Value} {x : Str} {i : Int} {t : Tok} (X : K.In h) (G : h.Ns mainGlobals mg) (a : PySem.W.nsIn K mainGlobals x = some (some (.int i t))) : ∃ t, mg x = some (.int i t) := ⟨t, PySem.W.mg_of X G a⟩
/-- a def's promise, ready to be called -/
theorem DefIs.callee {P : Program} {w : World} {K : PySem.W.Frag} {mg : Str → Option Value} {base : Heap} {x : Str} {st : Stmt} {k : Nat} {ps : List Str} {sp : Sp} (D : DefIs K mg x st)
    (hb : ∀ (kV doc pm : Value) (an : Option Addr) (cdv ct : Value) (us : List Value), us.length = ps.length → bindArgs (PySem.W.fnOf x x (defArgs st) (defBody st) (defScope st) .none kV doc pm an cdv ct) ⟨us, []⟩ = pure (ps.zip us))
    (ok : ∀ f fd, Fun K x x st f fd → FnOk P w K mg base CX0 k f fd ps sp) : Callee P w K mg base x k ps sp := by
  obtain ⟨f, fd, h1, h2⟩ := D
  exact ⟨f, fd, h1, h2.kp, h2.binds hb, ok f fd h2⟩
theorem b1 {x : Str} {st : Stmt} {a : Str} (h : ∀ (kV doc pm : Value) (an : Option Addr) (cdv ct : Value) (u : Value), bindArgs (PySem.W.fnOf x x (defArgs st) (defBody st) (defScope st) .none kV doc pm an cdv ct) ⟨[u], []⟩ = pure (([a] : List Str).zip [u])) :
    ∀ (kV doc pm : Value) (an : Option Addr) (cdv ct : Value) (us : List Value), us.length = ([a] : List Str).length → bindArgs (PySem.W.fnOf x x (defArgs st) (defBody st) (defScope st) .none kV doc pm an cdv ct) ⟨us, []⟩ = pure (([a] : List Str).zip us) :=
  fun _ _ _ _ _ _ us hl => match us, hl with | [_], _ => h ..
theorem tup_mk {K : PySem.W.Frag} {nb : Addr} {od : Option Addr} {osl : Array (Option Value)} {n : Nat} {t0 t1 t2 t3 t4 t5 t6 t7 t8 t9 t10 t11 t12 t13 t14 t15 t16 t17 t18 t19 : Tok}
    (l : K.lookup nb = some ⟨.type "tuple", od, .seq #[.int 6 t0, .int 1 t1, .int 3 t2, .int 1 t3, .int 1 t4, .int 1 t5, .int 1 t6, .int 1 t7, .int 0 t8, .int 1 t9, .int 3 t10, .int 3 t11, .int 3 t12, .int 1 t13, .int 1 t14, .int 1 t15, .int 0 t16, .int 1 t17, .int 0 t18, .int 0 t19] n, osl⟩) : ∀ H, SqT K H nb (Fc.behind.map V.int) := fun H =>
  .inr ⟨_, _, n, l, rfl, rfl, (by show 20 ≤ sizeLine; decide), .cons ⟨_, rfl⟩ (.cons ⟨_, rfl⟩ (.cons ⟨_, rfl⟩ (.cons ⟨_, rfl⟩ (.cons ⟨_, rfl⟩ (.cons ⟨_, rfl⟩ (.cons ⟨_, rfl⟩ (.cons ⟨_, rfl⟩ (.cons ⟨_, rfl⟩ (.cons ⟨_, rfl⟩ (.cons ⟨_, rfl⟩ (.cons ⟨_, rfl⟩ (.cons ⟨_, rfl⟩ (.cons ⟨_, rfl⟩ (.cons ⟨_, rfl⟩ (.cons ⟨_, rfl⟩ (.cons ⟨_, rfl⟩ (.cons ⟨_, rfl⟩ (.cons ⟨_, rfl⟩ (.cons ⟨_, rfl⟩ .nil)))))))))))))))))))⟩
theorem txt2_mk {K : PySem.W.Frag} {h : Heap} {mg : Str → Option Value} {nb : Addr} {od : Option Addr} {osl : Array (Option Value)} {n : Nat} {t0 t1 t2 t3 t4 t5 t6 t7 t8 t9 t10 t11 t12 t13 t14 t15 t16 t17 t18 t19 : Tok} (X : K.In h) (G : h.Ns mainGlobals mg) (s : ∃ t, mg "START" = some (.int 0 t))
    (a : PySem.W.nsIn K mainGlobals "NUMBERS_BEHIND" = some (some (.ref nb)))
    (l : K.lookup nb = some ⟨.type "tuple", od, .seq #[.int 6 t0, .int 1 t1, .int 3 t2, .int 1 t3, .int 1 t4, .int 1 t5, .int 1 t6, .int 1 t7, .int 0 t8, .int 1 t9, .int 3 t10, .int 3 t11, .int 3 t12, .int 1 t13, .int 1 t14, .int 1 t15, .int 0 t16, .int 1 t17, .int 0 t18, .int 0 t19] n, osl⟩) : ∃ nb, Txt2 K mg nb :=
  ⟨nb, s, PySem.W.mg_of X G a, tup_mk l⟩
/-! ### the table of the calls -/
def ent (q : Int × Tok × Addr) : DictEntry := ⟨q.1, .int q.1 q.2.1, .ref q.2.2⟩
def kvT (L : List (Int × Tok × Addr)) : List (Key × Value) := L.map fun q => (Sum.inl q.1, .ref q.2.2)
theorem pairs_ent {P : Program} {w : World} : ∀ L : List (Int × Tok × Addr), PySem.Pairs (mixKind P w) (L.map ent) (kvT L)
  | [] => .nil
  | q :: L => .cons (keyIs_int q.1 q.2.1) rfl (pairs_ent L)
theorem tab_list {P : Program} {w : World} {K : PySem.W.Frag} {d : Addr} {L : List (Int × Tok × Addr)} {n : Nat} (l : K.lookup d = some ⟨.type "dict", none, .dict (L.map ent).toArray n, #[]⟩) (hh : ∀ c ∈ L.map (·.1), hashInt c = c) (hn : (L.map (·.1)).Nodup) : TabIs P w K d (kvT L) := by
  refine ⟨_, _, _, l, ⟨rfl, rfl, rfl⟩, rfl, fun e he => ?_, pairs_ent L, ?_⟩
  · have he : e ∈ L.map ent := by simpa using he
    obtain ⟨q, hq, rfl⟩ := List.mem_map.mp he
    exact ⟨Sum.inl q.1, keyIs_int q.1 q.2.1, (hh q.1 (List.mem_map.mpr ⟨q, hq, rfl⟩)).symm⟩
  · have e : (kvT L).map (·.1) = (L.map (·.1)).map (fun c : Int => (Sum.inl c : Key)) := by
      unfold kvT
      rw [List.map_map, List.map_map]
      rfl
    rw [e]
    exact List.Pairwise.map _ (fun a b h z => h (Sum.inl.inj z)) hn
theorem val_list {c : Int} {f : Addr} : ∀ {L : List (Int × Tok × Addr)}, (∃ t, L.find? (fun q => q.1 == c) = some (c, t, f)) → valueAt (kvT L) (Sum.inl c) = some (.ref f)
  | [], ⟨t, h⟩ => by cases h
  | q :: L, ⟨t, h⟩ => by
    rw [List.find?_cons] at h
    unfold valueAt kvT
    rw [List.map_cons, List.find?_cons]
    by_cases e : q.1 = c
    · rw [show (q.1 == c) = true from beq_iff_eq.mpr e] at h
      have h := Option.some.inj h
      subst h
      simp
    · rw [show (q.1 == c) = false from beq_eq_false_iff_ne.mpr e] at h
      rw [decide_eq_false (show ¬ (Sum.inl q.1 : Key) = Sum.inl c from fun z => e (Sum.inl.inj z))]
      exact val_list (L := L) ⟨t, h⟩
theorem tab_mk {K : PySem.W.Frag} {h : Heap} {mg : Str → Option Value} {d : Addr} {n : Nat} {t1 t2 t3 t4 t5 t6 t7 t8 t9 t10 t11 t12 t13 t14 t15 t16 t17 t18 t19 : Tok} {f1 f2 f3 f4 f5 f6 f7 f8 f9 f10 f11 f12 f13 f14 f15 f16 f17 f18 f19 : Addr} (X : K.In h) (G : h.Ns mainGlobals mg) (a : PySem.W.nsIn K mainGlobals "ANSWERED_BY" = some (some (.ref d)))
    (l : K.lookup d = some ⟨.type "dict", none, .dict #[⟨1, .int 1 t1, .ref f1⟩, ⟨2, .int 2 t2, .ref f2⟩, ⟨3, .int 3 t3, .ref f3⟩, ⟨4, .int 4 t4, .ref f4⟩, ⟨5, .int 5 t5, .ref f5⟩, ⟨6, .int 6 t6, .ref f6⟩, ⟨7, .int 7 t7, .ref f7⟩, ⟨8, .int 8 t8, .ref f8⟩, ⟨9, .int 9 t9, .ref f9⟩, ⟨10, .int 10 t10, .ref f10⟩, ⟨11, .int 11 t11, .ref f11⟩, ⟨12, .int 12 t12, .ref f12⟩, ⟨13, .int 13 t13, .ref f13⟩, ⟨14, .int 14 t14, .ref f14⟩, ⟨15, .int 15 t15, .ref f15⟩, ⟨16, .int 16 t16, .ref f16⟩, ⟨17, .int 17 t17, .ref f17⟩, ⟨18, .int 18 t18, .ref f18⟩, ⟨19, .int 19 t19, .ref f19⟩] n, #[]⟩)
    (a1 : PySem.W.nsIn K mainGlobals "coat" = some (some (.ref f1))) (a2 : PySem.W.nsIn K mainGlobals "fault" = some (some (.ref f2))) (a3 : PySem.W.nsIn K mainGlobals "mend" = some (some (.ref f3))) (a4 : PySem.W.nsIn K mainGlobals "stretches" = some (some (.ref f4))) (a5 : PySem.W.nsIn K mainGlobals "best" = some (some (.ref f5))) (a6 : PySem.W.nsIn K mainGlobals "plan" = some (some (.ref f6))) (a7 : PySem.W.nsIn K mainGlobals "worth" = some (some (.ref f7))) (a8 : PySem.W.nsIn K mainGlobals "total" = some (some (.ref f8))) (a9 : PySem.W.nsIn K mainGlobals "alone" = some (some (.ref f9))) (a10 : PySem.W.nsIn K mainGlobals "fits" = some (some (.ref f10))) (a11 : PySem.W.nsIn K mainGlobals "next_place" = some (some (.ref f11))) (a12 : PySem.W.nsIn K mainGlobals "stamp" = some (some (.ref f12))) (a13 : PySem.W.nsIn K mainGlobals "follow" = some (some (.ref f13))) (a14 : PySem.W.nsIn K mainGlobals "lift" = some (some (.ref f14))) (a15 : PySem.W.nsIn K mainGlobals "gain" = some (some (.ref f15))) (a16 : PySem.W.nsIn K mainGlobals "worst" = some (some (.ref f16))) (a17 : PySem.W.nsIn K mainGlobals "sheet" = some (some (.ref f17))) (a18 : PySem.W.nsIn K mainGlobals "metres" = some (some (.ref f18))) (a19 : PySem.W.nsIn K mainGlobals "state" = some (some (.ref f19))) : ∃ d kvs, ∀ (P : Program) (w : World), TxtD P w K mg d kvs :=
  ⟨d, kvT [(1, t1, f1), (2, t2, f2), (3, t3, f3), (4, t4, f4), (5, t5, f5), (6, t6, f6), (7, t7, f7), (8, t8, f8), (9, t9, f9), (10, t10, f10), (11, t11, f11), (12, t12, f12), (13, t13, f13), (14, t14, f14), (15, t15, f15), (16, t16, f16), (17, t17, f17), (18, t18, f18), (19, t19, f19)], fun P w => ⟨PySem.W.mg_of X G a, tab_list (L := [(1, t1, f1), (2, t2, f2), (3, t3, f3), (4, t4, f4), (5, t5, f5), (6, t6, f6), (7, t7, f7), (8, t8, f8), (9, t9, f9), (10, t10, f10), (11, t11, f11), (12, t12, f12), (13, t13, f13), (14, t14, f14), (15, t15, f15), (16, t16, f16), (17, t17, f17), (18, t18, f18), (19, t19, f19)]) l (by show ∀ c ∈ ([1, 2, 3, 4, 5, 6, 7, 8, 9, 10, 11, 12, 13, 14, 15, 16, 17, 18, 19] : List Int), hashInt c = c; decide) (by show ([1, 2, 3, 4, 5, 6, 7, 8, 9, 10, 11, 12, 13, 14, 15, 16, 17, 18, 19] : List Int).Nodup; decide),
    ⟨f1, PySem.W.mg_of X G a1, val_list ⟨t1, rfl⟩⟩, ⟨f2, PySem.W.mg_of X G a2, val_list ⟨t2, rfl⟩⟩, ⟨f3, PySem.W.mg_of X G a3, val_list ⟨t3, rfl⟩⟩, ⟨f4, PySem.W.mg_of X G a4, val_list ⟨t4, rfl⟩⟩, ⟨f5, PySem.W.mg_of X G a5, val_list ⟨t5, rfl⟩⟩, ⟨f6, PySem.W.mg_of X G a6, val_list ⟨t6, rfl⟩⟩, ⟨f7, PySem.W.mg_of X G a7, val_list ⟨t7, rfl⟩⟩, ⟨f8, PySem.W.mg_of X G a8, val_list ⟨t8, rfl⟩⟩, ⟨f9, PySem.W.mg_of X G a9, val_list ⟨t9, rfl⟩⟩, ⟨f10, PySem.W.mg_of X G a10, val_list ⟨t10, rfl⟩⟩, ⟨f11, PySem.W.mg_of X G a11, val_list ⟨t11, rfl⟩⟩, ⟨f12, PySem.W.mg_of X G a12, val_list ⟨t12, rfl⟩⟩, ⟨f13, PySem.W.mg_of X G a13, val_list ⟨t13, rfl⟩⟩, ⟨f14, PySem.W.mg_of X G a14, val_list ⟨t14, rfl⟩⟩, ⟨f15, PySem.W.mg_of X G a15, val_list ⟨t15, rfl⟩⟩, ⟨f16, PySem.W.mg_of X G a16, val_list ⟨t16, rfl⟩⟩, ⟨f17, PySem.W.mg_of X G a17, val_list ⟨t17, rfl⟩⟩, ⟨f18, PySem.W.mg_of X G a18, val_list ⟨t18, rfl⟩⟩, ⟨f19, PySem.W.mg_of X G a19, val_list ⟨t19, rfl⟩⟩⟩⟩
/-- the class of webs -/
structure ClsIs (K : PySem.W.Frag) (mg : Str → Option Value) (C : Addr) : Prop where
  cl : Cls K C
  nlanes : NoAttr K C "lanes"
  nlong : NoAttr K C "long"
  nlengths : NoAttr K C "lengths"
  nworths : NoAttr K C "worths"
  nfaults : NoAttr K C "faults"
  nsheets : NoAttr K C "sheets"
  made : ∃ f fd, mg "Web" = some (.ref C) ∧ Mk K C f ∧ Fun K "__init__" "Web.__init__" sInit f fd
theorem cls_mk {K : PySem.W.Frag} {h : Heap} {mg : Str → Option Value} {C f : Addr} {oc : Value} {od an : Option Addr} {osl : Array (Option Value)} {kV doc pm cdv ct : Value} (X : K.In h) (G : h.Ns mainGlobals mg) (a : PySem.W.nsIn K mainGlobals "Web" = some (some (.ref C)))
    (a1 : PySem.W.findIn K (.ref C) "__init__" = some (some (.ref f))) (i1 : PySem.W.isFn K (.ref f) = true) (l1 : K.lookup f = some ⟨oc, od, .func (PySem.W.fnOf "__init__" "Web.__init__" (defArgs sInit) (defBody sInit) (defScope sInit) .none kV doc pm an cdv ct), osl⟩) (c1 : PySem.W.codeIn K cdv "Web.__init__" = true) (k1 : PySem.W.keepIn K (.ref f) = true)
    (pg : PySem.W.plainGet K C Str.empty = true) (hd : PySem.W.hasDictIn K C = true) (po : PySem.W.plainOver K C = true) (sa : PySem.W.findIn K (.ref C) "__setattr__" = some (some (.builtin "object.__setattr__"))) (mk : PySem.W.makesIn K C = true) (kc : PySem.W.keepIn K (.ref C) = true)
    (n1 : PySem.W.findIn K (.ref C) "lanes" = some none) (n2 : PySem.W.findIn K (.ref C) "long" = some none) (n3 : PySem.W.findIn K (.ref C) "lengths" = some none) (n4 : PySem.W.findIn K (.ref C) "worths" = some none) (n5 : PySem.W.findIn K (.ref C) "faults" = some none) (n6 : PySem.W.findIn K (.ref C) "sheets" = some none) : ∃ C, ClsIs K mg C :=
  ⟨C, ⟨pg, hd, po, sa⟩, n1, n2, n3, n4, n5, n6, f, _, PySem.W.mg_of X G a, ⟨mk, a1, i1, kc⟩, fun_mk l1 c1 k1⟩
end Fw

end

set_option Elab.async false
set_option linter.all false
set_option maxRecDepth 100000
set_option maxHeartbeats 4000000
namespace Fw
open PySem PySem.Spec PyProof.Rows L2
open Fc (M)
structure TxtG (mg : Str → Option Value) : Prop where
  cWRONG : ∃ t, mg "WRONG" = some (.int (-22) t)
  cNONE_SUCH : ∃ t, mg "NONE_SUCH" = some (.int (-2) t)
  cNOT_STARTED : ∃ t, mg "NOT_STARTED" = some (.int (-11) t)
  cTAKEN : ∃ t, mg "TAKEN" = some (.int (-16) t)
  cFULL : ∃ t, mg "FULL" = some (.int (-28) t)
  cNONE_THERE : ∃ t, mg "NONE_THERE" = some (.int (-33) t)
  cMOST_LANES : ∃ t, mg "MOST_LANES" = some (.int (3) t)
  cMOST_PLACES : ∃ t, mg "MOST_PLACES" = some (.int (80) t)
  cLONGEST_SHEET : ∃ t, mg "LONGEST_SHEET" = some (.int (60) t)
  cMOST_WORTH : ∃ t, mg "MOST_WORTH" = some (.int (1000) t)
  cMOST_FAULTS : ∃ t, mg "MOST_FAULTS" = some (.int (8) t)
  cMOST_SHEETS : ∃ t, mg "MOST_SHEETS" = some (.int (30) t)
  cSHORT : ∃ t, mg "SHORT" = some (.int (0) t)
  cTALL : ∃ t, mg "TALL" = some (.int (1) t)
  blen : mg "len" = none
  bsum : mg "sum" = none
  blist : mg "list" = none
  brange : mg "range" = none
  benumerate : mg "enumerate" = none
  bmax : mg "max" = none
  bsorted : mg "sorted" = none
  bdict : mg "dict" = none
theorem all_ok {P : Program} {w : World} {K : PySem.W.Frag} {mg : Str → Option Value} {fa : Addr} (hmg : mg "answers" = some (.ref fa)) (hC : ∃ C, ClsIs K mg C) (hnb : ∃ nb, Txt2 K mg nb) (TG : TxtG mg) (hD : ∃ d kvs, ∀ (P : Program) (w : World), TxtD P w K mg d kvs) (d_answers : DefIs K mg "answers" (top 55))
    (d_may_start : DefIs K mg "may_start" (top 18)) (d_started_web : DefIs K mg "started_web" (top 19)) (d_least_free : DefIs K mg "least_free" (top 20)) (d_taken_by_faults : DefIs K mg "taken_by_faults" (top 21)) (d_taken_by_sheets : DefIs K mg "taken_by_sheets" (top 22)) (d_sheet_lies_in : DefIs K mg "sheet_lies_in" (top 23)) (d_taken_places : DefIs K mg "taken_places" (top 24)) (d_stretches_of : DefIs K mg "stretches_of" (top 25)) (d_best_of : DefIs K mg "best_of" (top 26)) (d_plan_of : DefIs K mg "plan_of" (top 27)) (d_worth_of : DefIs K mg "worth_of" (top 28)) (d_worth_of_all : DefIs K mg "worth_of_all" (top 29)) (d_cost_of : DefIs K mg "cost_of" (top 30)) (d_first_fit : DefIs K mg "first_fit" (top 31)) (d_lay_sheet : DefIs K mg "lay_sheet" (top 32)) (d_counted_pairs : DefIs K mg "counted_pairs" (top 33)) (d_coat : DefIs K mg "coat" (top 34)) (d_fault : DefIs K mg "fault" (top 35)) (d_mend : DefIs K mg "mend" (top 36)) (d_stretches : DefIs K mg "stretches" (top 37)) (d_best : DefIs K mg "best" (top 38)) (d_plan : DefIs K mg "plan" (top 39)) (d_worth : DefIs K mg "worth" (top 40)) (d_total : DefIs K mg "total" (top 41)) (d_alone : DefIs K mg "alone" (top 42)) (d_fits : DefIs K mg "fits" (top 43)) (d_next_place : DefIs K mg "next_place" (top 44)) (d_stamp : DefIs K mg "stamp" (top 45)) (d_follow : DefIs K mg "follow" (top 46)) (d_lift : DefIs K mg "lift" (top 47)) (d_gain : DefIs K mg "gain" (top 48)) (d_worst : DefIs K mg "worst" (top 49)) (d_sheet : DefIs K mg "sheet" (top 50)) (d_metres : DefIs K mg "metres" (top 51)) (d_state : DefIs K mg "state" (top 52)) (d_answer : DefIs K mg "answer" (top 54)) :
    ∃ fd : FuncData, (∀ (s : Shared) (us : List Value), us.length = (["calls"] : List Str).length → BindsTo s fd ⟨us, []⟩ ((["calls"] : List Str).zip us)) ∧ ∀ base : Heap, K.In base → base.Ns mainGlobals mg → FnOk P w K mg base CX0 10 fa fd ["calls"] (spAns K) := by
  obtain ⟨C, hC⟩ := hC
  obtain ⟨nb, T2⟩ := hnb
  obtain ⟨d, kvs, hD⟩ := hD
  have D := hD P w
  have T : Txt K mg C := ⟨hC.cl, hC.nlanes, hC.nlong, hC.nlengths, hC.nworths, hC.nfaults, hC.nsheets, TG.cWRONG, TG.cNONE_SUCH, TG.cNOT_STARTED, TG.cTAKEN, TG.cFULL, TG.cNONE_THERE, TG.cMOST_LANES, TG.cMOST_PLACES, TG.cLONGEST_SHEET, TG.cMOST_WORTH, TG.cMOST_FAULTS, TG.cMOST_SHEETS, TG.cSHORT, TG.cTALL, TG.blen, TG.bsum, TG.blist, TG.brange, TG.benumerate, TG.bmax, TG.bsorted, TG.bdict⟩
  obtain ⟨f, fd, m1, F⟩ := d_answers
  have e := hmg.symm.trans m1
  cases e
  refine ⟨fd, fun s us hu => ?_, fun base _ _ => ?_⟩
  · obtain ⟨oc, od, kV, doc, pm, an, cdv, ct, osl, rfl, _, _⟩ := F.ex
    exact match us, hu with | [_], _ => .of_eq rfl
  have g_Web : Maker P w K mg base "Web" C 1 ["self", "lanes", "long", "lengths", "worths"] (spInit C) := by
    obtain ⟨f, fd, h1, h2, F⟩ := hC.made
    exact ⟨f, fd, h1, h2, F.binds fun _ _ _ _ _ _ us hl => match us, hl with | [_, _, _, _, _], _ => rfl, ok_init F T⟩
  have g_may_start : Callee P w K mg base "may_start" 1 pMay spMay := d_may_start.callee (fun _ _ _ _ _ _ us hl => match us, hl with | [_, _, _, _, _, _], _ => rfl) fun f fd F => ok_may F T
  have g_started_web : Callee P w K mg base "started_web" 3 pMay (spStarted C) := d_started_web.callee (fun _ _ _ _ _ _ us hl => match us, hl with | [_, _, _, _, _, _], _ => rfl) fun f fd F => ok_started F T g_may_start g_Web
  have g_least_free : Callee P w K mg base "least_free" 1 ["numbered"] spLeast := d_least_free.callee (fun _ _ _ _ _ _ us hl => match us, hl with | [_], _ => rfl) fun f fd F => ok_least F
  have g_taken_by_faults : Callee P w K mg base "taken_by_faults" 1 ["web", "lane"] (spPairs C takenF) := d_taken_by_faults.callee (fun _ _ _ _ _ _ us hl => match us, hl with | [_, _], _ => rfl) fun f fd F => ok_takenF F T
  have g_taken_by_sheets : Callee P w K mg base "taken_by_sheets" 1 ["web", "lane"] (spPairs C takenS) := d_taken_by_sheets.callee (fun _ _ _ _ _ _ us hl => match us, hl with | [_, _], _ => rfl) fun f fd F => ok_takenS F T
  have g_sheet_lies_in : Callee P w K mg base "sheet_lies_in" 2 pLies (spLies C) := d_sheet_lies_in.callee (fun _ _ _ _ _ _ us hl => match us, hl with | [_, _, _, _], _ => rfl) fun f fd F => ok_lies F T g_taken_by_sheets
  have g_taken_places : Callee P w K mg base "taken_places" 1 ["web", "parts"] (spTaken C) := d_taken_places.callee (fun _ _ _ _ _ _ us hl => match us, hl with | [_, _], _ => rfl) fun f fd F => ok_taken F T
  have g_stretches_of : Callee P w K mg base "stretches_of" 3 ["web", "lane"] (spPairs C M.stretches) := d_stretches_of.callee (fun _ _ _ _ _ _ us hl => match us, hl with | [_, _], _ => rfl) fun f fd F => ok_str F T g_taken_places g_taken_by_faults g_taken_by_sheets
  have g_best_of : Callee P w K mg base "best_of" 1 ["web", "room"] (spBest C) := d_best_of.callee (fun _ _ _ _ _ _ us hl => match us, hl with | [_, _], _ => rfl) fun f fd F => ok_best_of F T
  have g_plan_of : Callee P w K mg base "plan_of" 4 ["web", "lane"] (spPairs C M.plan) := d_plan_of.callee (fun _ _ _ _ _ _ us hl => match us, hl with | [_, _], _ => rfl) fun f fd F => ok_plan_of F T g_stretches_of g_best_of
  have g_worth_of : Callee P w K mg base "worth_of" 5 ["web", "lane"] (spNum C M.laneWorth) := d_worth_of.callee (fun _ _ _ _ _ _ us hl => match us, hl with | [_, _], _ => rfl) fun f fd F => ok_worth_of F T g_plan_of
  have g_worth_of_all : Callee P w K mg base "worth_of_all" 6 ["web"] (spAll C) := d_worth_of_all.callee (fun _ _ _ _ _ _ us hl => match us, hl with | [_], _ => rfl) fun f fd F => ok_all F T g_worth_of
  have g_cost_of : Callee P w K mg base "cost_of" 7 ["web", "f"] (spCost C) := d_cost_of.callee (fun _ _ _ _ _ _ us hl => match us, hl with | [_, _], _ => rfl) fun f fd F => ok_cost F T g_Web g_worth_of_all
  have g_first_fit : Callee P w K mg base "first_fit" 4 pFit (spFit C) := d_first_fit.callee (fun _ _ _ _ _ _ us hl => match us, hl with | [_, _, _, _], _ => rfl) fun f fd F => ok_fit F T g_stretches_of
  have g_lay_sheet : Callee P w K mg base "lay_sheet" 2 pFit (spLay C) := d_lay_sheet.callee (fun _ _ _ _ _ _ us hl => match us, hl with | [_, _, _, _], _ => rfl) fun f fd F => ok_lay F T g_least_free
  have g_counted_pairs : Callee P w K mg base "counted_pairs" 1 ["pairs"] spCounted := d_counted_pairs.callee (fun _ _ _ _ _ _ us hl => match us, hl with | [_], _ => rfl) fun f fd F => ok_counted F T
  have g_coat : Callee P w K mg base "coat" 1 ["web", "n"] (spCmd1 C .coat) := d_coat.callee (fun _ _ _ _ _ _ us hl => match us, hl with | [_, _], _ => rfl) fun f fd F => ok_coat F T
  have g_fault : Callee P w K mg base "fault" 3 ["web", "lane", "begin", "end"] (spCmd3 C .fault) := d_fault.callee (fun _ _ _ _ _ _ us hl => match us, hl with | [_, _, _, _], _ => rfl) fun f fd F => ok_fault F T g_sheet_lies_in g_least_free
  have g_mend : Callee P w K mg base "mend" 1 ["web", "f"] (spCmd1 C .mend) := d_mend.callee (fun _ _ _ _ _ _ us hl => match us, hl with | [_, _], _ => rfl) fun f fd F => ok_mend F T
  have g_stretches : Callee P w K mg base "stretches" 4 ["web", "lane"] (spCmd1 C .stretches) := d_stretches.callee (fun _ _ _ _ _ _ us hl => match us, hl with | [_, _], _ => rfl) fun f fd F => ok_stretches F T g_counted_pairs g_stretches_of
  have g_best : Callee P w K mg base "best" 2 ["web", "s"] (spCmd1 C .best) := d_best.callee (fun _ _ _ _ _ _ us hl => match us, hl with | [_, _], _ => rfl) fun f fd F => ok_best F T g_best_of
  have g_plan : Callee P w K mg base "plan" 5 ["web", "lane"] (spCmd1 C .plan) := d_plan.callee (fun _ _ _ _ _ _ us hl => match us, hl with | [_, _], _ => rfl) fun f fd F => ok_plan F T g_counted_pairs g_plan_of
  have g_worth : Callee P w K mg base "worth" 6 ["web", "lane"] (spCmd1 C .worth) := d_worth.callee (fun _ _ _ _ _ _ us hl => match us, hl with | [_, _], _ => rfl) fun f fd F => ok_worth F T g_worth_of
  have g_total : Callee P w K mg base "total" 7 ["web"] (spCmd0 C .total) := d_total.callee (fun _ _ _ _ _ _ us hl => match us, hl with | [_], _ => rfl) fun f fd F => ok_total F T g_worth_of_all
  have g_alone : Callee P w K mg base "alone" 4 ["web", "size"] (spCmd1 C .alone) := d_alone.callee (fun _ _ _ _ _ _ us hl => match us, hl with | [_, _], _ => rfl) fun f fd F => ok_alone F T g_stretches_of
  have g_fits : Callee P w K mg base "fits" 5 pFit (spCmd3 C .fits) := d_fits.callee (fun _ _ _ _ _ _ us hl => match us, hl with | [_, _, _, _], _ => rfl) fun f fd F => ok_fits F T g_first_fit
  have g_next_place : Callee P w K mg base "next_place" 5 pFit (spCmd3 C .next) := d_next_place.callee (fun _ _ _ _ _ _ us hl => match us, hl with | [_, _, _, _], _ => rfl) fun f fd F => ok_next F T g_first_fit
  have g_stamp : Callee P w K mg base "stamp" 5 pFit (spCmd3 C .stamp) := d_stamp.callee (fun _ _ _ _ _ _ us hl => match us, hl with | [_, _, _, _], _ => rfl) fun f fd F => ok_stamp F T g_first_fit g_lay_sheet
  have g_follow : Callee P w K mg base "follow" 5 ["web", "lane"] (spCmd1 C .follow) := d_follow.callee (fun _ _ _ _ _ _ us hl => match us, hl with | [_, _], _ => rfl) fun f fd F => ok_follow F T g_plan_of g_lay_sheet
  have g_lift : Callee P w K mg base "lift" 1 ["web", "s"] (spCmd1 C .lift) := d_lift.callee (fun _ _ _ _ _ _ us hl => match us, hl with | [_, _], _ => rfl) fun f fd F => ok_lift F T
  have g_gain : Callee P w K mg base "gain" 8 ["web", "f"] (spCmd1 C .gain) := d_gain.callee (fun _ _ _ _ _ _ us hl => match us, hl with | [_, _], _ => rfl) fun f fd F => ok_gain F T g_cost_of
  have g_worst : Callee P w K mg base "worst" 8 ["web"] (spCmd0 C .worst) := d_worst.callee (fun _ _ _ _ _ _ us hl => match us, hl with | [_], _ => rfl) fun f fd F => ok_worst F T g_cost_of
  have g_sheet : Callee P w K mg base "sheet" 1 ["web", "s"] (spCmd1 C .sheet) := d_sheet.callee (fun _ _ _ _ _ _ us hl => match us, hl with | [_, _], _ => rfl) fun f fd F => ok_sheet F T
  have g_metres : Callee P w K mg base "metres" 3 ["web"] (spCmd0 C .metres) := d_metres.callee (fun _ _ _ _ _ _ us hl => match us, hl with | [_], _ => rfl) fun f fd F => ok_metres F T g_taken_places g_taken_by_faults g_taken_by_sheets
  have g_state : Callee P w K mg base "state" 1 ["web"] (spCmd0 C .state) := d_state.callee (fun _ _ _ _ _ _ us hl => match us, hl with | [_], _ => rfl) fun f fd F => ok_state F T
  have g_answer : Callee P w K mg base "answer" 9 ["web", "call", "numbers"] (spAnswer C) := d_answer.callee (fun _ _ _ _ _ _ us hl => match us, hl with | [_, _, _], _ => rfl) fun f fd F => ok_answer F T D fun h0 h9 ha hx => way D g_coat g_fault g_mend g_stretches g_best g_plan g_worth g_total g_alone g_fits g_next_place g_stamp g_follow g_lift g_gain g_worst g_sheet g_metres g_state h0 h9 ha hx
  exact ok_answers (ka := 6) F T T2 g_started_web g_answer
end Fw
open PySem PySem.W PyProof.Rows
set_option maxRecDepth 100000 in
set_option maxHeartbeats 0 in
theorem PySem.Challenge.cw_foilcuts_s01_answers_holds : PySem.Challenge.rw_foilcuts_s01_answers.Holds := by
  w_on; k_headS; (case hw => exact ⟨[.list [.int 8]], by decide +kernel, by decide +kernel⟩)
  k_fillS
  refine L2.walk_specK (r := PySem.Challenge.rw_foilcuts_s01_answers) (k := 10) (CX := L2.CX0) (ps := ["calls"]) (sp := Fw.spAns) (by decide +kernel) rfl rfl ⟨rfl, by decide, by decide⟩ (fun w h Y => PySem.W.kIn_of Y) ?F ?S (fun _ _ _ _ z => z)
  case F =>
    intro w mg fa h Y KX G hmg
    have d_may_start : Fw.DefIs (Fw.kof KX) mg "may_start" (Fw.top 18) := by dsimp only [Fw.kof]; refine' Fw.def_mk KX G ?a ?l ?c ?k; (case a => k_is); (case l => k_is); (case c => k_is); (case k => k_is)
    have d_started_web : Fw.DefIs (Fw.kof KX) mg "started_web" (Fw.top 19) := by dsimp only [Fw.kof]; refine' Fw.def_mk KX G ?a ?l ?c ?k; (case a => k_is); (case l => k_is); (case c => k_is); (case k => k_is)
    have d_least_free : Fw.DefIs (Fw.kof KX) mg "least_free" (Fw.top 20) := by dsimp only [Fw.kof]; refine' Fw.def_mk KX G ?a ?l ?c ?k; (case a => k_is); (case l => k_is); (case c => k_is); (case k => k_is)
    have d_taken_by_faults : Fw.DefIs (Fw.kof KX) mg "taken_by_faults" (Fw.top 21) := by dsimp only [Fw.kof]; refine' Fw.def_mk KX G ?a ?l ?c ?k; (case a => k_is); (case l => k_is); (case c => k_is); (case k => k_is)
    have d_taken_by_sheets : Fw.DefIs (Fw.kof KX) mg "taken_by_sheets" (Fw.top 22) := by dsimp only [Fw.kof]; refine' Fw.def_mk KX G ?a ?l ?c ?k; (case a => k_is); (case l => k_is); (case c => k_is); (case k => k_is)
    have d_sheet_lies_in : Fw.DefIs (Fw.kof KX) mg "sheet_lies_in" (Fw.top 23) := by dsimp only [Fw.kof]; refine' Fw.def_mk KX G ?a ?l ?c ?k; (case a => k_is); (case l => k_is); (case c => k_is); (case k => k_is)
    have d_taken_places : Fw.DefIs (Fw.kof KX) mg "taken_places" (Fw.top 24) := by dsimp only [Fw.kof]; refine' Fw.def_mk KX G ?a ?l ?c ?k; (case a => k_is); (case l => k_is); (case c => k_is); (case k => k_is)
    have d_stretches_of : Fw.DefIs (Fw.kof KX) mg "stretches_of" (Fw.top 25) := by dsimp only [Fw.kof]; refine' Fw.def_mk KX G ?a ?l ?c ?k; (case a => k_is); (case l => k_is); (case c => k_is); (case k => k_is)
    have d_best_of : Fw.DefIs (Fw.kof KX) mg "best_of" (Fw.top 26) := by dsimp only [Fw.kof]; refine' Fw.def_mk KX G ?a ?l ?c ?k; (case a => k_is); (case l => k_is); (case c => k_is); (case k => k_is)
    have d_plan_of : Fw.DefIs (Fw.kof KX) mg "plan_of" (Fw.top 27) := by dsimp only [Fw.kof]; refine' Fw.def_mk KX G ?a ?l ?c ?k; (case a => k_is); (case l => k_is); (case c => k_is); (case k => k_is)
    have d_worth_of : Fw.DefIs (Fw.kof KX) mg "worth_of" (Fw.top 28) := by dsimp only [Fw.kof]; refine' Fw.def_mk KX G ?a ?l ?c ?k; (case a => k_is); (case l => k_is); (case c => k_is); (case k => k_is)
    have d_worth_of_all : Fw.DefIs (Fw.kof KX) mg "worth_of_all" (Fw.top 29) := by dsimp only [Fw.kof]; refine' Fw.def_mk KX G ?a ?l ?c ?k; (case a => k_is); (case l => k_is); (case c => k_is); (case k => k_is)
    have d_cost_of : Fw.DefIs (Fw.kof KX) mg "cost_of" (Fw.top 30) := by dsimp only [Fw.kof]; refine' Fw.def_mk KX G ?a ?l ?c ?k; (case a => k_is); (case l => k_is); (case c => k_is); (case k => k_is)
    have d_first_fit : Fw.DefIs (Fw.kof KX) mg "first_fit" (Fw.top 31) := by dsimp only [Fw.kof]; refine' Fw.def_mk KX G ?a ?l ?c ?k; (case a => k_is); (case l => k_is); (case c => k_is); (case k => k_is)
    have d_lay_sheet : Fw.DefIs (Fw.kof KX) mg "lay_sheet" (Fw.top 32) := by dsimp only [Fw.kof]; refine' Fw.def_mk KX G ?a ?l ?c ?k; (case a => k_is); (case l => k_is); (case c => k_is); (case k => k_is)
    have d_counted_pairs : Fw.DefIs (Fw.kof KX) mg "counted_pairs" (Fw.top 33) := by dsimp only [Fw.kof]; refine' Fw.def_mk KX G ?a ?l ?c ?k; (case a => k_is); (case l => k_is); (case c => k_is); (case k => k_is)
    have d_coat : Fw.DefIs (Fw.kof KX) mg "coat" (Fw.top 34) := by dsimp only [Fw.kof]; refine' Fw.def_mk KX G ?a ?l ?c ?k; (case a => k_is); (case l => k_is); (case c => k_is); (case k => k_is)
    have d_fault : Fw.DefIs (Fw.kof KX) mg "fault" (Fw.top 35) := by dsimp only [Fw.kof]; refine' Fw.def_mk KX G ?a ?l ?c ?k; (case a => k_is); (case l => k_is); (case c => k_is); (case k => k_is)
    have d_mend : Fw.DefIs (Fw.kof KX) mg "mend" (Fw.top 36) := by dsimp only [Fw.kof]; refine' Fw.def_mk KX G ?a ?l ?c ?k; (case a => k_is); (case l => k_is); (case c => k_is); (case k => k_is)
    have d_stretches : Fw.DefIs (Fw.kof KX) mg "stretches" (Fw.top 37) := by dsimp only [Fw.kof]; refine' Fw.def_mk KX G ?a ?l ?c ?k; (case a => k_is); (case l => k_is); (case c => k_is); (case k => k_is)
    have d_best : Fw.DefIs (Fw.kof KX) mg "best" (Fw.top 38) := by dsimp only [Fw.kof]; refine' Fw.def_mk KX G ?a ?l ?c ?k; (case a => k_is); (case l => k_is); (case c => k_is); (case k => k_is)
    have d_plan : Fw.DefIs (Fw.kof KX) mg "plan" (Fw.top 39) := by dsimp only [Fw.kof]; refine' Fw.def_mk KX G ?a ?l ?c ?k; (case a => k_is); (case l => k_is); (case c => k_is); (case k => k_is)
    have d_worth : Fw.DefIs (Fw.kof KX) mg "worth" (Fw.top 40) := by dsimp only [Fw.kof]; refine' Fw.def_mk KX G ?a ?l ?c ?k; (case a => k_is); (case l => k_is); (case c => k_is); (case k => k_is)
    have d_total : Fw.DefIs (Fw.kof KX) mg "total" (Fw.top 41) := by dsimp only [Fw.kof]; refine' Fw.def_mk KX G ?a ?l ?c ?k; (case a => k_is); (case l => k_is); (case c => k_is); (case k => k_is)
    have d_alone : Fw.DefIs (Fw.kof KX) mg "alone" (Fw.top 42) := by dsimp only [Fw.kof]; refine' Fw.def_mk KX G ?a ?l ?c ?k; (case a => k_is); (case l => k_is); (case c => k_is); (case k => k_is)
    have d_fits : Fw.DefIs (Fw.kof KX) mg "fits" (Fw.top 43) := by dsimp only [Fw.kof]; refine' Fw.def_mk KX G ?a ?l ?c ?k; (case a => k_is); (case l => k_is); (case c => k_is); (case k => k_is)
    have d_next_place : Fw.DefIs (Fw.kof KX) mg "next_place" (Fw.top 44) := by dsimp only [Fw.kof]; refine' Fw.def_mk KX G ?a ?l ?c ?k; (case a => k_is); (case l => k_is); (case c => k_is); (case k => k_is)
    have d_stamp : Fw.DefIs (Fw.kof KX) mg "stamp" (Fw.top 45) := by dsimp only [Fw.kof]; refine' Fw.def_mk KX G ?a ?l ?c ?k; (case a => k_is); (case l => k_is); (case c => k_is); (case k => k_is)
    have d_follow : Fw.DefIs (Fw.kof KX) mg "follow" (Fw.top 46) := by dsimp only [Fw.kof]; refine' Fw.def_mk KX G ?a ?l ?c ?k; (case a => k_is); (case l => k_is); (case c => k_is); (case k => k_is)
    have d_lift : Fw.DefIs (Fw.kof KX) mg "lift" (Fw.top 47) := by dsimp only [Fw.kof]; refine' Fw.def_mk KX G ?a ?l ?c ?k; (case a => k_is); (case l => k_is); (case c => k_is); (case k => k_is)
    have d_gain : Fw.DefIs (Fw.kof KX) mg "gain" (Fw.top 48) := by dsimp only [Fw.kof]; refine' Fw.def_mk KX G ?a ?l ?c ?k; (case a => k_is); (case l => k_is); (case c => k_is); (case k => k_is)
    have d_worst : Fw.DefIs (Fw.kof KX) mg "worst" (Fw.top 49) := by dsimp only [Fw.kof]; refine' Fw.def_mk KX G ?a ?l ?c ?k; (case a => k_is); (case l => k_is); (case c => k_is); (case k => k_is)
    have d_sheet : Fw.DefIs (Fw.kof KX) mg "sheet" (Fw.top 50) := by dsimp only [Fw.kof]; refine' Fw.def_mk KX G ?a ?l ?c ?k; (case a => k_is); (case l => k_is); (case c => k_is); (case k => k_is)
    have d_metres : Fw.DefIs (Fw.kof KX) mg "metres" (Fw.top 51) := by dsimp only [Fw.kof]; refine' Fw.def_mk KX G ?a ?l ?c ?k; (case a => k_is); (case l => k_is); (case c => k_is); (case k => k_is)
    have d_state : Fw.DefIs (Fw.kof KX) mg "state" (Fw.top 52) := by dsimp only [Fw.kof]; refine' Fw.def_mk KX G ?a ?l ?c ?k; (case a => k_is); (case l => k_is); (case c => k_is); (case k => k_is)
    have d_answer : Fw.DefIs (Fw.kof KX) mg "answer" (Fw.top 54) := by dsimp only [Fw.kof]; refine' Fw.def_mk KX G ?a ?l ?c ?k; (case a => k_is); (case l => k_is); (case c => k_is); (case k => k_is)
    have d_answers : Fw.DefIs (Fw.kof KX) mg "answers" (Fw.top 55) := by dsimp only [Fw.kof]; refine' Fw.def_mk KX G ?a ?l ?c ?k; (case a => k_is); (case l => k_is); (case c => k_is); (case k => k_is)
    have hW : ∃ C, Fw.ClsIs (Fw.kof KX) mg C := by
      dsimp only [Fw.kof]
      refine' Fw.cls_mk KX G ?a ?a1 ?i1 ?l1 ?c1 ?k1 ?pg ?hd ?po ?sa ?mk ?kc ?nlanes ?nlong ?nlengths ?nworths ?nfaults ?nsheets
      (case a => k_is)
      (case a1 => k_is)
      (case i1 => k_is)
      (case l1 => k_is)
      (case c1 => k_is)
      (case k1 => k_is)
      (case pg => k_is)
      (case hd => k_is)
      (case po => k_is)
      (case sa => k_is)
      (case mk => k_is)
      (case kc => k_is)
      (case nlanes => k_is)
      (case nlong => k_is)
      (case nlengths => k_is)
      (case nworths => k_is)
      (case nfaults => k_is)
      (case nsheets => k_is)
    have c_WRONG : ∃ t, mg "WRONG" = some (.int (-22) t) := by refine' Fw.int_mk KX G ?a; (case a => k_is)
    have c_NONE_SUCH : ∃ t, mg "NONE_SUCH" = some (.int (-2) t) := by refine' Fw.int_mk KX G ?a; (case a => k_is)
    have c_NOT_STARTED : ∃ t, mg "NOT_STARTED" = some (.int (-11) t) := by refine' Fw.int_mk KX G ?a; (case a => k_is)
    have c_TAKEN : ∃ t, mg "TAKEN" = some (.int (-16) t) := by refine' Fw.int_mk KX G ?a; (case a => k_is)
    have c_FULL : ∃ t, mg "FULL" = some (.int (-28) t) := by refine' Fw.int_mk KX G ?a; (case a => k_is)
    have c_NONE_THERE : ∃ t, mg "NONE_THERE" = some (.int (-33) t) := by refine' Fw.int_mk KX G ?a; (case a => k_is)
    have c_MOST_LANES : ∃ t, mg "MOST_LANES" = some (.int (3) t) := by refine' Fw.int_mk KX G ?a; (case a => k_is)
    have c_MOST_PLACES : ∃ t, mg "MOST_PLACES" = some (.int (80) t) := by refine' Fw.int_mk KX G ?a; (case a => k_is)
    have c_LONGEST_SHEET : ∃ t, mg "LONGEST_SHEET" = some (.int (60) t) := by refine' Fw.int_mk KX G ?a; (case a => k_is)
    have c_MOST_WORTH : ∃ t, mg "MOST_WORTH" = some (.int (1000) t) := by refine' Fw.int_mk KX G ?a; (case a => k_is)
    have c_MOST_FAULTS : ∃ t, mg "MOST_FAULTS" = some (.int (8) t) := by refine' Fw.int_mk KX G ?a; (case a => k_is)
    have c_MOST_SHEETS : ∃ t, mg "MOST_SHEETS" = some (.int (30) t) := by refine' Fw.int_mk KX G ?a; (case a => k_is)
    have c_SHORT : ∃ t, mg "SHORT" = some (.int (0) t) := by refine' Fw.int_mk KX G ?a; (case a => k_is)
    have c_TALL : ∃ t, mg "TALL" = some (.int (1) t) := by refine' Fw.int_mk KX G ?a; (case a => k_is)
    have c_START : ∃ t, mg "START" = some (.int (0) t) := by refine' Fw.int_mk KX G ?a; (case a => k_is)
    have b_len : mg "len" = none := by refine' PySem.W.mg_none_of KX G ?a; (case a => k_is)
    have b_sum : mg "sum" = none := by refine' PySem.W.mg_none_of KX G ?a; (case a => k_is)
    have b_list : mg "list" = none := by refine' PySem.W.mg_none_of KX G ?a; (case a => k_is)
    have b_range : mg "range" = none := by refine' PySem.W.mg_none_of KX G ?a; (case a => k_is)
    have b_enumerate : mg "enumerate" = none := by refine' PySem.W.mg_none_of KX G ?a; (case a => k_is)
    have b_max : mg "max" = none := by refine' PySem.W.mg_none_of KX G ?a; (case a => k_is)
    have b_sorted : mg "sorted" = none := by refine' PySem.W.mg_none_of KX G ?a; (case a => k_is)
    have b_dict : mg "dict" = none := by refine' PySem.W.mg_none_of KX G ?a; (case a => k_is)
    have hnb : ∃ nb, Fw.Txt2 (Fw.kof KX) mg nb := by
      dsimp only [Fw.kof]
      refine' Fw.txt2_mk KX G c_START ?a ?l
      (case a => k_is)
      (case l => k_is)
    have hD : ∃ d kvs, ∀ (P : PySem.Program) (w : PySem.World), Fw.TxtD P w (Fw.kof KX) mg d kvs := by
      dsimp only [Fw.kof]
      refine' Fw.tab_mk KX G ?a ?l ?v1 ?v2 ?v3 ?v4 ?v5 ?v6 ?v7 ?v8 ?v9 ?v10 ?v11 ?v12 ?v13 ?v14 ?v15 ?v16 ?v17 ?v18 ?v19
      (case a => k_is)
      (case l => k_is)
      (case v1 => k_is)
      (case v2 => k_is)
      (case v3 => k_is)
      (case v4 => k_is)
      (case v5 => k_is)
      (case v6 => k_is)
      (case v7 => k_is)
      (case v8 => k_is)
      (case v9 => k_is)
      (case v10 => k_is)
      (case v11 => k_is)
      (case v12 => k_is)
      (case v13 => k_is)
      (case v14 => k_is)
      (case v15 => k_is)
      (case v16 => k_is)
      (case v17 => k_is)
      (case v18 => k_is)
      (case v19 => k_is)
    exact Fw.all_ok hmg hW hnb ⟨c_WRONG, c_NONE_SUCH, c_NOT_STARTED, c_TAKEN, c_FULL, c_NONE_THERE, c_MOST_LANES, c_MOST_PLACES, c_LONGEST_SHEET, c_MOST_WORTH, c_MOST_FAULTS, c_MOST_SHEETS, c_SHORT, c_TALL, b_len, b_sum, b_list, b_range, b_enumerate, b_max, b_sorted, b_dict⟩ hD d_answers d_may_start d_started_web d_least_free d_taken_by_faults d_taken_by_sheets d_sheet_lies_in d_taken_places d_stretches_of d_best_of d_plan_of d_worth_of d_worth_of_all d_cost_of d_first_fit d_lay_sheet d_counted_pairs d_coat d_fault d_mend d_stretches d_best d_plan d_worth d_total d_alone d_fits d_next_place d_stamp d_follow d_lift d_gain d_worst d_sheet d_metres d_state d_answer
  case S =>
    intro K H xs a hO hwi hask hx
    cases hx with
    | cons h1 h2 =>
      cases h2
      cases h1 with
      | lst hs ha =>
        have e := L2.ints_dw a.1 _ ha
        subst e
        exact ⟨_, a.1, rfl, hs, hask, fun H' p hp => .lst (L2.SqL.of hp) (L2.dw_ints _)⟩
#print axioms PySem.Challenge.cw_foilcuts_s01_answers_holds
