import PyProof.Rows.All
import Wide.All
import OpenK.AllK
import Wide.FinOn
import PyProof.EqAt
import PyProof.EqKinds
import PyProof.TupleCall
import KE.BitLaws
import KE.KDictList
import KE.OsGo
import KE.KTops
import PySem.Challenge.RW_readysets_s01_answers
set_option Elab.async false
set_option linter.all false
set_option maxRecDepth 100000
/-! THE HAND LAYER, for ints, bools, texts, own classes, lists, tuples, dicts, comprehensions, walks over dicts, enumerate, zip, reversed, texts, calls, loops. Paste it whole ahead of your own text; what your proof does not reach may be deleted. -/
namespace L2
open PySem PySem.Spec PyProof.Rows

/-- a key: an int or a str -/
abbrev Key := Sum Int Str
def keyIs : Key → Value → Bool
  | .inl k, v => Value.isInt k v
  | .inr x, v => Value.isStrOf x v
def keyH (w : World) : Key → Int
  | .inl k => hashInt k
  | .inr x => hashStr w x
theorem keyIs_shape : ∀ {k : Key} {v : Value}, keyIs k v = true → (∃ i t, k = Sum.inl i ∧ v = Value.int i t) ∨ (∃ x t, k = Sum.inr x ∧ v = Value.str x t)
  | .inl i, v, h => by
    obtain ⟨t, e⟩ := Value.isInt_shape (k := i) (v := v) h
    exact .inl ⟨i, t, rfl, e⟩
  | .inr x, v, h => by
    obtain ⟨t, e⟩ := Value.isStrOf_shape (x := x) (v := v) h
    exact .inr ⟨x, t, rfl, e⟩
theorem keyIs_int (i : Int) (t : Tok) : keyIs (.inl i) (.int i t) = true := by simp [keyIs, Value.isInt]
theorem keyIs_str (x : Str) (t : Tok) : keyIs (.inr x) (.str x t) = true := by simp [keyIs, Value.isStrOf]
theorem key_ll (a b : Int) : decide ((Sum.inl a : Key) = Sum.inl b) = (a == b) := by
  by_cases e : a = b
  · subst e; simp
  · have h : ¬ (Sum.inl a : Key) = Sum.inl b := fun q => e (Sum.inl.inj q)
    rw [decide_eq_false h]
    exact (beq_eq_false_iff_ne.mpr e).symm
theorem key_rr (a b : Str) : decide ((Sum.inr a : Key) = Sum.inr b) = decide (a = b) := by
  by_cases e : a = b
  · subst e; simp
  · have h : ¬ (Sum.inr a : Key) = Sum.inr b := fun q => e (Sum.inr.inj q)
    rw [decide_eq_false h, decide_eq_false e]
theorem key_lr (a : Int) (b : Str) : decide ((Sum.inl a : Key) = Sum.inr b) = false := decide_eq_false (fun q => nomatch q)
theorem key_rl (a : Str) (b : Int) : decide ((Sum.inr a : Key) = Sum.inl b) = false := decide_eq_false (fun q => nomatch q)

def mixKind (prog : Program) (w : World) : PySem.KeyKind prog w Key where
  is := keyIs
  hash := keyH w
  inj := fun v a b ha hb => by
    rcases keyIs_shape ha with ⟨i, t, rfl, rfl⟩ | ⟨x, t, rfl, rfl⟩
    · rcases keyIs_shape hb with ⟨j, u, rfl, e⟩ | ⟨y, u, rfl, e⟩
      · injection e with e1 _; rw [e1]
      · exact nomatch e
    · rcases keyIs_shape hb with ⟨j, u, rfl, e⟩ | ⟨y, u, rfl, e⟩
      · exact nomatch e
      · injection e with e1 _; rw [e1]
  byValue := fun k v h => by
    rcases keyIs_shape h with ⟨i, t, rfl, rfl⟩ | ⟨x, t, rfl, rfl⟩ <;> rfl
  pyHash := fun hv h => by
    rcases keyIs_shape hv with ⟨i, t, rfl, rfl⟩ | ⟨x, t, rfl, rfl⟩
    · exact wpAny_pyHash_int h
    · exact wpAny_pyHash_str h
  eqBool := fun hu hv h => by
    rcases keyIs_shape hu with ⟨i, t, rfl, rfl⟩ | ⟨x, t, rfl, rfl⟩
    · rcases keyIs_shape hv with ⟨j, u, rfl, rfl⟩ | ⟨y, u, rfl, rfl⟩
      · rw [key_ll] at h; exact wpAny_eqBool_int h
      · rw [key_lr] at h; exact SeqAt.EqAt.int_str i t y u _ _ _ _ h
    · rcases keyIs_shape hv with ⟨j, u, rfl, rfl⟩ | ⟨y, u, rfl, rfl⟩
      · rw [key_rl] at h; exact SeqAt.EqAt.str_int x t j u _ _ _ _ h
      · rw [key_rr] at h; exact wpAny_eqBool_str h
  «strs» := fun k x t v h => by
    rcases keyIs_shape h with ⟨i, u, rfl, e⟩ | ⟨y, u, rfl, e⟩
    · exact nomatch e
    · injection e with e1 _
      subst e1
      cases v <;> rfl

theorem mixKind_int (prog : Program) (w : World) (i : Int) (t : Tok) : (mixKind prog w).is (.inl i) (.int i t) = true := keyIs_int i t
theorem mixKind_str (prog : Program) (w : World) (x : Str) (t : Tok) : (mixKind prog w).is (.inr x) (.str x t) = true := keyIs_str x t
end L2

namespace L2
open PySem PySem.Spec PyProof.Rows

/-- a value, without the heap -/
inductive V where
  | non | bl (b : Bool) | int (i : Int) | str (x : Str) | byt (b : Array UInt8) | flt (b : UInt64) | ref (a : Addr) | ty (n : String)
  deriving DecidableEq

def RelV : V → Value → Prop
  | .non, u => u = Value.none
  | .bl b, u => u = Value.bool b
  | .int i, u => ∃ t, u = Value.int i t
  | .str x, u => ∃ t, u = Value.str x t
  | .byt b, u => ∃ t, u = Value.bytes b t
  | .flt b, u => ∃ t, u = Value.float b t
  | .ref a, u => u = Value.ref a
  | .ty n, u => u = Value.type n

abbrev Vals : List V → List Value → Prop := Paired RelV
theorem Vals.length {xs : List V} {us : List Value} (r : Vals xs us) : xs.length = us.length := Paired.length r
theorem Vals.get : ∀ {xs : List V} {us : List Value} {i : Nat} {x : V}, Vals xs us → xs[i]? = some x → ∃ u, us[i]? = some u ∧ RelV x u
  | _, _, _, _, .nil, e => by simp at e
  | _, _, 0, _, .cons r _, e => by simp at e; subst e; exact ⟨_, rfl, r⟩
  | _, _, i + 1, x, .cons _ t, e => by
    obtain ⟨u, h1, h2⟩ := Vals.get (i := i) (x := x) t (by simpa using e)
    exact ⟨u, by simpa using h1, h2⟩
theorem Vals.set {x : V} {u : Value} (r : RelV x u) : ∀ {xs : List V} {us : List Value} (i : Nat), Vals xs us → Vals (xs.set i x) (us.set i u)
  | _, _, _, .nil => .nil
  | _, _, 0, .cons _ t => .cons r t
  | _, _, i + 1, .cons q t => .cons q (Vals.set r i t)
theorem Vals.append : ∀ {xs ys : List V} {us ws : List Value}, Vals xs us → Vals ys ws → Vals (xs ++ ys) (us ++ ws)
  | _, _, _, _, .nil, s => s
  | _, _, _, _, .cons r t, s => .cons r (Vals.append t s)
theorem Vals.take : ∀ {xs : List V} {us : List Value} (n : Nat), Vals xs us → Vals (xs.take n) (us.take n)
  | _, _, 0, _ => .nil
  | _, _, _ + 1, .nil => .nil
  | _, _, n + 1, .cons r t => .cons r (Vals.take n t)
theorem Vals.drop : ∀ {xs : List V} {us : List Value} (n : Nat), Vals xs us → Vals (xs.drop n) (us.drop n)
  | _, _, 0, r => r
  | _, _, _ + 1, .nil => .nil
  | _, _, n + 1, .cons _ t => Vals.drop n t
def RelO : Option V → Option Value → Prop
  | some v, some u => RelV v u
  | none, none => True
  | _, _ => False
def KV {κ : Type} : List (κ × V) → List (κ × Value) → Prop := Paired fun (p : κ × V) (q : κ × Value) => p.1 = q.1 ∧ RelV p.2 q.2

/-- a key of a dict (00_mix): an int or a text -/
def kV : Key → V
  | .inl i => .int i
  | .inr x => .str x

/-- what stands at a tracked address -/
inductive HO where
  /-- a list -/
  | lst (xs : List V)
  /-- a tuple (never changes) -/
  | tup (xs : List V)
  /-- a dict whose keys are ints and texts; one whose keys are tuples of ints and texts (the empty one is both) -/
  | dK (kvs : List (Key × V)) | dT (kvs : List (List Key × V))
  /-- a set of ints: its members, its size -/
  | set (S : Int → Bool) (n : Nat)
  /-- an instance of the class at C, its dict at dx, its attributes -/
  | ins (C dx : Addr) (fs : List (Str × V))
  /-- the dict of the instance at x -/
  | own (x : Addr)
  /-- the dict of an exception -/
  | xd (fs : List (Str × V))
  /-- a bound method, f of x -/
  | met (f x : Addr)
  /-- a range object lo, lo + 1, .. below hi -/
  | rng (lo hi : Int)
  /-- a thing that is known to the object (the script; a dict while a loop walks it): read, never written while it is so -/
  | frz (o : Obj) (u : HO)
  /-- a code object's table -/
  | tbl (ps : Array Value)
  /-- any other thing, by what is true of its one object (a def of one's own: SetO a S n := HO.ext fun h => ..) -/
  | ext (φ : Heap → Prop)

abbrev Hp := Addr → Option HO
def upd (H : Hp) (a : Addr) (o : HO) : Hp := fun b => if b = a then some o else H b
theorem upd_same {H : Hp} {a : Addr} {o : HO} : upd H a o a = some o := by unfold upd; rw [if_pos rfl]
theorem upd_ne {H : Hp} {a b : Addr} {o : HO} (h : b ≠ a) : upd H a o b = H b := by unfold upd; rw [if_neg h]
theorem upd_upd {H : Hp} {a : Addr} {o u : HO} : upd (upd H a o) a u = upd H a u := by
  funext b; unfold upd; split <;> rfl
/-- two objects of different content stand apart -/
theorem ne_of {H : Hp} {a b : Addr} {o u : HO} (h : H a = some o) (h' : H b = some u) (d : o ≠ u) : a ≠ b := by
  intro e; subst e; rw [h] at h'; exact d (Option.some.inj h')
theorem ne_of_none {H : Hp} {a b : Addr} {o : HO} (h : H a = some o) (h' : H b = none) : a ≠ b := by
  intro e; subst e; rw [h] at h'; cases h'

section
variable (P : Program) (w : World)
def ObjOk (H : Hp) (h : Heap) (a : Addr) : HO → Prop
  | .lst xs => xs.length ≤ sizeLine ∧ ∃ (its : List Value) (n : Nat), Vals xs its ∧ h.get? a = some { cls := .type "list", data := .seq its.toArray n }
  | .tup xs => xs.length ≤ sizeLine ∧ ∃ its : List Value, Vals xs its ∧ IsTup h a its.toArray
  | .dK kvs => kvs.length ≤ sizeLine ∧ (a == sysModules) = false ∧ ∃ vs, KV kvs vs ∧ h.DictOf (mixKind P w) a vs
  | .dT kvs => kvs.length ≤ sizeLine ∧ (a == sysModules) = false ∧ ∃ xs : List (List Key × Addr × Value),
      Paired (fun (p : List Key × V) (q : List Key × Addr × Value) => p.1 = q.1 ∧ H q.2.1 = some (.tup (p.1.map kV)) ∧ RelV p.2 q.2.2) kvs xs ∧
      ∃ o es ep, h.get? a = some o ∧ o.ExactDict ∧ o.data = .dict es ep ∧ es.toList = xs.map (entryOfKey (tupleKind (mixKind P w))) ∧ (xs.map (·.1)).Nodup
  | .set S n => h.SetOf (intKind P w) a S n
  | .ins C dx fs => H dx = some (.own a) ∧ fs.length ≤ 1000 ∧ dx ≠ a ∧ h.get? a = some (PySem.W.instObj C dx) ∧
      ∃ mA, h.Ns1 dx mA ∧ (∀ f, RelO (fs.lookup f) (mA f)) ∧ PySem.Within mA (fs.map (·.1))
  | .own _ => ∃ o, h.get? a = some o
  | .xd fs => ∃ mA, h.Ns1 a mA ∧ ∀ f, RelO (fs.lookup f) (mA f)
  | .rng lo hi => ∃ t u v, h.get? a = some { cls := .type "range", data := .fields #[.int lo t, .int hi u, .int 1 v] }
  | .frz o u => h.get? a = some o ∧ ObjOk H h a u
  | .tbl ps => h.get? a = some { cls := .none, data := .fields ps }
  | .met f x => h.get? a = some (PySem.W.methodObj (.ref f) (.ref x))
  | .ext φ => φ h ∧ (∃ o, h.get? a = some o) ∧ ∀ h1 h2 : Heap, φ h1 → (∀ o, h1.get? a = some o → h2.get? a = some o) → φ h2
/-- the abstract heap is held -/
def HOk (H : Hp) (h : Heap) : Prop := ∀ a o, H a = some o → ObjOk P w H h a o
end

section
variable {P : Program} {w : World} {H H' : Hp} {h h' : Heap} {a : Addr} {o : HO}
theorem ObjOk.lt (x : ObjOk P w H h a o) : a < h.objs.size := by
  cases o with
  | lst xs => obtain ⟨_, _, _, _, e⟩ := x; exact Heap.lt_size e
  | tup xs => obtain ⟨_, _, _, p⟩ := x; exact p.lt
  | dK kvs => obtain ⟨_, _, _, _, o, _, _, e, _⟩ := x; exact Heap.lt_size e
  | dT kvs => obtain ⟨_, _, _, _, o, _, _, e, _⟩ := x; exact Heap.lt_size e
  | set S n => obtain ⟨o, _, _, _, e, _⟩ := x; exact Heap.lt_size e
  | ins C dx fs => obtain ⟨_, _, _, e, _⟩ := x; exact Heap.lt_size e
  | own y => obtain ⟨_, e⟩ := x; exact Heap.lt_size e
  | xd fs => obtain ⟨_, ⟨_, _, _, e, _⟩, _⟩ := x; exact Heap.lt_size e
  | rng lo hi => obtain ⟨_, _, _, e⟩ := x; exact Heap.lt_size e
  | frz ob u => obtain ⟨e, _⟩ := x; exact Heap.lt_size e
  | tbl ps => exact Heap.lt_size (show h.get? a = some _ from x)
  | met f y => exact Heap.lt_size (show h.get? a = some _ from x)
  | ext φ => obtain ⟨_, ⟨_, e⟩, _⟩ := x; exact Heap.lt_size e
theorem Paired.mapP {α β : Type} {F G : α → β → Prop} : ∀ {l₁ : List α} {l₂ : List β}, Paired F l₁ l₂ → (∀ a b, F a b → G a b) → Paired G l₁ l₂
  | _, _, .nil, _ => .nil
  | _, _, .cons r t, f => .cons (f _ _ r) (Paired.mapP t f)
/-- what an object's description leans on: its own object, its own dict, the tuples -/
theorem ObjOk.stay (x : ObjOk P w H h a o) (k : ∀ b u, (b = a ∨ H b = some (.own a)) → h.get? b = some u → h'.get? b = some u)
    (ho : ∀ b, H b = some (.own a) → H' b = some (.own a)) (ht : ∀ b xs, H b = some (.tup xs) → H' b = some (.tup xs)) : ObjOk P w H' h' a o := by
  induction o with
  | lst xs => obtain ⟨z, its, n, r, e⟩ := x; exact ⟨z, its, n, r, k _ _ (.inl rfl) e⟩
  | tup xs => obtain ⟨z, its, r, ob, e, c⟩ := x; exact ⟨z, its, r, ob, k _ _ (.inl rfl) e, c⟩
  | dK kvs => obtain ⟨z, y, vs, r, ob, es, ep, e, c⟩ := x; exact ⟨z, y, vs, r, ob, es, ep, k _ _ (.inl rfl) e, c⟩
  | dT kvs =>
    obtain ⟨z, y, xs, r, ob, es, ep, e, c⟩ := x
    exact ⟨z, y, xs, Paired.mapP r fun p q z => ⟨z.1, ht _ _ z.2.1, z.2.2⟩, ob, es, ep, k _ _ (.inl rfl) e, c⟩
  | set S n => obtain ⟨ob, es, ep, t, e, c⟩ := x; exact ⟨ob, es, ep, t, k _ _ (.inl rfl) e, c⟩
  | ins C dx fs =>
    obtain ⟨d, z, ne, e, mA, ⟨od, es, ep, e2, c⟩, r⟩ := x
    exact ⟨ho _ d, z, ne, k _ _ (.inl rfl) e, mA, ⟨od, es, ep, k _ _ (.inr d) e2, c⟩, r⟩
  | own y => obtain ⟨ob, e⟩ := x; exact ⟨ob, k _ _ (.inl rfl) e⟩
  | xd fs => obtain ⟨mA, ⟨od, es, ep, e, c⟩, r⟩ := x; exact ⟨mA, ⟨od, es, ep, k _ _ (.inl rfl) e, c⟩, r⟩
  | rng lo hi => obtain ⟨t, u, v, e⟩ := x; exact ⟨t, u, v, k _ _ (.inl rfl) e⟩
  | frz ob u ih => obtain ⟨e, q⟩ := x; exact ⟨k _ _ (.inl rfl) e, ih q⟩
  | tbl ps =>
    have e : h.get? a = some { cls := .none, data := .fields ps } := x
    show h'.get? a = some { cls := .none, data := .fields ps }
    exact k a _ (.inl rfl) e
  | met f y =>
    have e : h.get? a = some (PySem.W.methodObj (.ref f) (.ref y)) := x
    show h'.get? a = some (PySem.W.methodObj (.ref f) (.ref y))
    exact k a _ (.inl rfl) e
  | ext φ => obtain ⟨p, ⟨o, e⟩, st⟩ := x; exact ⟨st _ _ p fun o q => k _ _ (.inl rfl) q, ⟨o, k _ _ (.inl rfl) e⟩, st⟩
theorem HOk.lt (x : HOk P w H h) (e : H a = some o) : a < h.objs.size := (x a o e).lt
theorem HOk.fresh (x : HOk P w H h) (e : h.objs.size ≤ a) : H a = none := by
  cases q : H a with
  | none => rfl
  | some u => exact absurd (Nat.lt_of_lt_of_le (x.lt q) e) (Nat.lt_irrefl _)
/-- every object of the heap is kept -/
theorem HOk.kept (x : HOk P w H h) (k : ∀ b u, h.get? b = some u → h'.get? b = some u) : HOk P w H h' := fun a o e =>
  (x a o e).stay (fun b u _ q => k b u q) (fun _ q => q) fun _ _ q => q
/-- a new object is laid and tracked -/
theorem HOk.laid (x : HOk P w H h) (k : ∀ b u, h.get? b = some u → h'.get? b = some u) (hp : h.objs.size ≤ a) (new : ObjOk P w (upd H a o) h' a o) : HOk P w (upd H a o) h' := fun b u e => by
  have hn := x.fresh hp
  by_cases hb : b = a
  · subst hb; rw [upd_same] at e; cases e; exact new
  · rw [upd_ne hb] at e
    exact (x b u e).stay (fun c v _ q => k c v q) (fun c q => by rw [upd_ne (ne_of_none q hn)]; exact q) fun c xs q => by rw [upd_ne (ne_of_none q hn)]; exact q
end

/-- what may be read as u: it is u, or a known u -/
def Rd (H : Hp) (a : Addr) (u : HO) : Prop := H a = some u ∨ ∃ o, H a = some (.frz o u)
theorem Rd.ok {P : Program} {w : World} {H : Hp} {h : Heap} {a : Addr} {u : HO} (r : Rd H a u) (x : HOk P w H h) : ObjOk P w H h a u := by
  rcases r with r | ⟨o, r⟩
  · exact x a u r
  · obtain ⟨_, q⟩ := x a _ r
    exact q
/-- what may be written -/
def Mut : Option HO → Prop
  | some (.lst _) => True
  | some (.dK _) => True
  | some (.dT _) => True
  | some (.set _ _) => True
  | some (.ins _ _ _) => True
  | some (.ext _) => True
  | _ => False
section
variable {P : Program} {w : World} {H : Hp} {h h' : Heap} {x e : Addr} {o' : HO}
/-- the object at e is changed: x itself, or the dict of the instance x -/
theorem HOk.write (ok : HOk P w H h) (mu : Mut (H x)) (he : e = x ∨ H e = some (.own x)) (k : ∀ b u, b ≠ e → h.get? b = some u → h'.get? b = some u) (heo : ∃ u, h'.get? e = some u)
    (new : ObjOk P w (upd H x o') h' x o') : HOk P w (upd H x o') h' := fun b u q => by
  have nown : ∀ c y, H c = some (.own y) → c ≠ x := fun c y r z => by subst z; rw [r] at mu; exact mu
  have ntup : ∀ c xs, H c = some (.tup xs) → c ≠ x := fun c xs r z => by subst z; rw [r] at mu; exact mu
  by_cases hb : b = x
  · subst hb; rw [upd_same] at q; cases q; exact new
  · rw [upd_ne hb] at q
    by_cases hbe : b = e
    · have q' : H b = some (.own x) := by
        rcases he with z | z
        · exact absurd (hbe.trans z) hb
        · rw [hbe]; exact z
      rw [q] at q'; cases q'
      obtain ⟨v, hv⟩ := heo
      exact ⟨v, by rw [hbe]; exact hv⟩
    · refine (ok b u q).stay (fun c v hc r => k c v ?_ r) (fun c r => by rw [upd_ne (nown c b r)]; exact r) fun c xs r => by rw [upd_ne (ntup c xs r)]; exact r
      rcases hc with rfl | hc
      · exact hbe
      · rintro rfl
        rcases he with z | z
        · exact nown c b hc z
        · rw [hc] at z; cases z; exact hb rfl
end

/-! ### kept unless tracked; of the frames at fs (the callers') the slots may change (an exception that passes writes there); of the records at ex (iterators) nothing is said -/
structure Un (fs ex : List Addr) (H H' : Hp) (h h' : Heap) : Prop where
  keep : ∀ b o, h.get? b = some o → H b = none → b ∉ fs → b ∉ ex → h'.get? b = some o
  slot : ∀ b o, h.get? b = some o → H b = none → b ∈ fs → b ∉ ex → ∃ sl, h'.get? b = some { o with slots := sl }
  free : ∀ b o, h.get? b = some o → H b = none → b ∉ ex → H' b = none
  there : ∀ b o, h.get? b = some o → b ∉ ex → ∃ o', h'.get? b = some o'
  tups : ∀ b xs, H b = some (.tup xs) → H' b = some (.tup xs)
  frzs : ∀ b o u, H b = some (.frz o u) → H' b = some (.frz o u)
  tbls : ∀ b ps, H b = some (.tbl ps) → ∃ more, H' b = some (.tbl (ps ++ more))
section
variable {fs fs' ex ex' : List Addr} {H H1 H2 : Hp} {h h1 h2 h' : Heap} {a x e : Addr} {o : HO}
theorem Un.any (u : Un fs ex H H1 h h1) {b : Addr} {ob : Obj} (q : h.get? b = some ob) (n : H b = none) (hx : b ∉ ex) : ∃ sl, h1.get? b = some { ob with slots := sl } := by
  by_cases hb : b ∈ fs
  · exact u.slot b ob q n hb hx
  · exact ⟨ob.slots, u.keep b ob q n hb hx⟩
theorem Un.kept (k : ∀ b u, h.get? b = some u → h'.get? b = some u) : Un fs ex H H h h' :=
  ⟨fun b ob q _ _ _ => k b ob q, fun b ob q _ _ _ => ⟨ob.slots, k b ob q⟩, fun _ _ _ n _ => n, fun b ob q _ => ⟨ob, k b ob q⟩, fun _ _ q => q, fun _ _ _ q => q, fun _ ps q => ⟨#[], by rw [q]; simp⟩⟩
theorem Un.refl : Un fs ex H H h h := Un.kept fun _ _ q => q
theorem Un.laid (k : ∀ b u, h.get? b = some u → h'.get? b = some u) (hp : h.objs.size ≤ a) (hn : H a = none) : Un fs ex H (upd H a o) h h' where
  keep := fun b u q _ _ _ => k b u q
  slot := fun b u q _ _ _ => ⟨u.slots, k b u q⟩
  free := fun b u q n _ => by rw [upd_ne (Nat.ne_of_lt (Nat.lt_of_lt_of_le (Heap.lt_size q) hp))]; exact n
  there := fun b u q _ => ⟨u, k b u q⟩
  tups := fun b xs q => by rw [upd_ne (ne_of_none q hn)]; exact q
  frzs := fun b u xs q => by rw [upd_ne (ne_of_none q hn)]; exact q
  tbls := fun b ps q => ⟨#[], by rw [upd_ne (ne_of_none q hn), q]; simp⟩
theorem Un.write (mu : Mut (H x)) (he : e = x ∨ H e = some (.own x)) (k : ∀ b u, b ≠ e → h.get? b = some u → h'.get? b = some u) (heo : ∃ u, h'.get? e = some u) : Un fs ex H (upd H x o) h h' := by
  have hx : ∀ b, H b = none → b ≠ x := fun b n z => by subst z; rw [n] at mu; exact mu
  have hb : ∀ b, H b = none → b ≠ e := fun b n z => by
    subst z
    rcases he with r | r
    · exact hx b n r
    · rw [n] at r; cases r
  have hm : ∀ b u, H b = some u → ¬ Mut (some u) → b ≠ x := fun b u q nm z => by subst z; rw [q] at mu; exact nm mu
  refine ⟨fun b u q n _ _ => k b u (hb b n) q, fun b u q n _ _ => ⟨u.slots, k b u (hb b n) q⟩, fun b u q n _ => by rw [upd_ne (hx b n)]; exact n, fun b u q _ => ?_,
    fun b xs q => by rw [upd_ne (hm b _ q fun z => z)]; exact q, fun b u xs q => by rw [upd_ne (hm b _ q fun z => z)]; exact q, fun b ps q => ⟨#[], by rw [upd_ne (hm b _ q fun z => z), q]; simp⟩⟩
  by_cases hbe : b = e
  · subst hbe; exact heo
  · exact ⟨u, k b u hbe q⟩
end

/-! ### the heap without what is tracked -/
def trk (h : Heap) (H : Hp) : List Addr := (List.range h.objs.size).filter fun a => (H a).isSome
def hidT (h : Heap) (H : Hp) : Heap := PySem.W.hideAll h (trk h H)
theorem hidT_size (h : Heap) (H : Hp) : (hidT h H).objs.size = h.objs.size := PySem.W.hideAll_size _ _
theorem hidT_get {h : Heap} {H : Hp} {b : Addr} {o : Obj} (e : h.get? b = some o) (n : H b = none) : (hidT h H).get? b = some o :=
  PySem.W.hideAll_get _ e fun hm => by
    have q : (H b).isSome = true := (List.mem_filter.mp hm).2
    rw [n] at q; simp at q
theorem of_hidT {h : Heap} {H : Hp} {b : Addr} {o : Obj} (e : (hidT h H).get? b = some o) : h.get? b = some o ∧ H b = none := by
  have e' : h.get? b = some o := PySem.W.of_hideAll (trk h H) e
  refine ⟨e', ?_⟩
  cases q : H b with
  | none => rfl
  | some x =>
    have hm : b ∈ trk h H := List.mem_filter.mpr ⟨List.mem_range.mpr (Heap.lt_size e'), by simp [q]⟩
    have z : (hidT h H).get? b = none := PySem.W.hideAll_none (trk h H) hm
    rw [z] at e; cases e

/-! ### OpenK's ledger, filled with every new object but one -/
end L2

namespace L2
open PySem PySem.Spec PyProof.Rows

/-- the module's facts, over the base: the heap at the law's entry without what is tracked there -/
structure Mod (K : PySem.W.Frag) (mg : Str → Option Value) (base : Heap) : Prop where
  kin : K.In base
  glob : base.Ns mainGlobals mg
  blt : ∃ mb, base.Ns builtinsNs mb ∧ ∀ x : Str, x ≠ "__name__" → mb x = bootBuiltins x
  nolimit : base.NoLimit

/-- the context: a def's body (or a comprehension's block) running. base: fixed through the whole law; s₀, H₀: the entry; outer: the frames whose slots others may change (a def's callers); stack: all frames that run;
   ex: iterators that were made ahead of the entry and are walked here (a comprehension's); fn: the names whose cells were made at the entry (a def: all; a comprehension's block: its own); calm: not within an except suite; pn: pins that every state bears; xe: what is wanted of an exception that leaves the code -/
structure Cx where
  prog : Program
  w : World
  K : PySem.W.Frag
  mg : Str → Option Value
  base : Heap
  A : Around
  N : List Str
  s_0 : Shared
  H_0 : Hp
  env : Env
  outer : List Env
  stack : List Env
  ex : List Addr
  fn : Str → Bool
  calm : Bool
  pn : List (Addr × Obj)
  xe : Value → Shared → Prop
/-- the callers' frames -/
def frs (l : List Env) : List Addr := l.filterMap (·.frame)
abbrev Cx.fs (X : Cx) : List Addr := frs X.outer

def Vis (sc : Scope) (x : Str) : Prop := sc.names.lookup x = some .local ∨ sc.names.lookup x = some .cell ∨ sc.names.lookup x = some .free
def Loc (sc : Scope) (x : Str) : Prop := sc.names.lookup x = some .local ∨ sc.names.lookup x = some .cell
def Look (env : Env) (h : Heap) (m : Str → Option Value) (x : Str) (u : Value) : Prop :=
  (env.kindOf x = some .local ∧ m x = some u) ∨ ((env.kindOf x = some .cell ∨ env.kindOf x = some .free) ∧ ∃ c, env.cells.lookup x = some c ∧ h.IsCell c (some u))

structure Cx.Ok (X : Cx) : Prop where
  mod : Mod X.K X.mg X.base
  kind : X.env.scope.kind = .function
  glob : X.env.globals = mainGlobals
  blt : X.env.builtins = builtinsNs
  above : X.s_0.heap.objs.size ≤ X.env.locals
  inj : ∀ x y c, X.env.cells.lookup x = some c → X.env.cells.lookup y = some c → x = y
  has : ∀ x, (X.env.kindOf x = some .cell ∨ X.env.kindOf x = some .free) → ∃ c, X.env.cells.lookup x = some c
  cab : ∀ x c, X.fn x = true → X.env.cells.lookup x = some c → X.s_0.heap.objs.size ≤ c
  hd : X.calm = true → X.A.handled = none
  frames : X.A.frames = some X.stack
  stk : X.stack = X.outer ∨ (X.stack = X.env :: X.outer ∧ X.env.frame = some X.env.locals)
  exf : ∀ b ∈ X.ex, b ≠ X.env.locals ∧ ∀ x c, X.env.cells.lookup x = some c → c ≠ b
  bs : ∀ b o, X.base.get? b = some o → X.s_0.heap.get? b = some o ∧ X.H_0 b = none
  bsz : X.base.objs.size ≤ X.s_0.heap.objs.size
  noex : ∀ b o, X.base.get? b = some o → b ∉ X.ex
  exfs : ∀ b ∈ X.ex, b ∉ X.fs
  funs : X.s_0.heap.FunFrames X.base X.outer
  frf : ∀ b ∈ X.fs, X.H_0 b = none

structure Inv (X : Cx) (pins : List (Addr × Obj)) (σ : List (Option V)) (H : Hp) (s : Shared) : Prop where
  ok : X.Ok
  os : s.os = X.s_0.os
  bare : AllBare s.gens
  base : Un X.fs X.ex X.H_0 H X.s_0.heap s.heap
  loc : ∃ m, s.heap.Ns X.env.locals m ∧ ∀ (i : Nat) (x : Str) (v : V), X.N[i]? = some x → σ[i]? = some (some v) → Vis X.env.scope x → ∃ u, RelV v u ∧ Look X.env s.heap m x u
  cell : ∀ x c, X.env.cells.lookup x = some c → ∃ v, s.heap.IsCell c v
  free : H X.env.locals = none
  freeC : ∀ x c, X.env.cells.lookup x = some c → H c = none
  pin : ∀ p ∈ X.pn ++ pins, s.heap.get? p.1 = some p.2 ∧ H p.1 = none ∧ p.1 ≠ X.env.locals ∧ p.1 ∉ X.fs ∧ ∀ v, p.2.data ≠ .cell v
  hok : HOk X.prog X.w H s.heap
  len : σ.length = X.N.length

section
variable {X : Cx} {pins : List (Addr × Obj)} {σ : List (Option V)} {H H' : Hp} {s : Shared} {h' : Heap}

theorem Cx.Ok.nofr (ok : X.Ok) {b : Addr} {o : Obj} (e : X.base.get? b = some o) : b ∉ X.fs := fun hb => by
  have := (ok.funs.mem hb).1
  rw [e] at this; cases this
theorem Inv.bs (I : Inv X pins σ H s) : ∀ b o, X.base.get? b = some o → s.heap.get? b = some o ∧ H b = none := fun b o e =>
  ⟨I.base.keep b o (I.ok.bs b o e).1 (I.ok.bs b o e).2 (I.ok.nofr e) (I.ok.noex b o e), I.base.free b o (I.ok.bs b o e).1 (I.ok.bs b o e).2 (I.ok.noex b o e)⟩
theorem Inv.bk (I : Inv X pins σ H s) : ∀ b o, X.base.get? b = some o → s.heap.get? b = some o := fun b o e => (I.bs b o e).1
theorem Inv.mod (I : Inv X pins σ H s) : Mod X.K X.mg X.base := I.ok.mod
theorem Inv.kIn (I : Inv X pins σ H s) : X.K.In s.heap := I.ok.mod.kin.keeps I.bk
/-- the frame over the base: for OpenK's rules (K.In X.base is I.mod.kin) -/
theorem Inv.fr (I : Inv X pins σ H s) : ∃ m, Fr X.base X.env.locals s.heap m :=
  let ⟨m, hn, _⟩ := I.loc
  ⟨m, hn, I.bk, Nat.le_trans I.ok.bsz I.ok.above⟩
theorem Inv.lt (I : Inv X pins σ H s) : X.env.locals < s.heap.objs.size := let ⟨_, hn, _⟩ := I.loc; hn.lt
theorem Inv.sz (I : Inv X pins σ H s) : X.s_0.heap.objs.size ≤ s.heap.objs.size := Nat.le_trans I.ok.above (Nat.le_of_lt I.lt)
theorem Inv.nofs (I : Inv X pins σ H s) {a : Addr} (h : s.heap.objs.size ≤ a) : a ∉ X.fs := fun hb => by
  obtain ⟨_, o, ho, _⟩ := I.ok.funs.mem hb
  exact absurd (Nat.lt_of_lt_of_le (Heap.lt_size ho) (Nat.le_trans I.sz h)) (Nat.lt_irrefl _)
theorem Inv.cne (I : Inv X pins σ H s) : ∀ x c, X.env.cells.lookup x = some c → c ≠ X.env.locals := fun x c e z => by
  obtain ⟨v, o, ho, hd⟩ := I.cell x c e
  obtain ⟨m, ⟨o', es, ep, ho', hd', _⟩, _⟩ := I.loc
  rw [z, ho'] at ho; cases ho; rw [hd'] at hd; cases hd
theorem Inv.funs (I : Inv X pins σ H s) : s.heap.FunFrames X.base X.outer := by
  have all : ∀ (l : List Env), (∀ b ∈ frs l, b ∈ X.fs) → X.s_0.heap.FunFrames X.base l → s.heap.FunFrames X.base l := by
    intro l
    induction l with
    | nil => intro _ _; trivial
    | cons env r ih =>
      intro hs hl
      obtain ⟨hk, ⟨L, o, hf, hn, ho, hd⟩, hr⟩ := hl
      have hL : L ∈ X.fs := hs L (by unfold frs; rw [List.filterMap_cons, hf]; exact List.mem_cons_self)
      obtain ⟨sl, e⟩ := I.base.slot L o ho (I.ok.frf L hL) hL fun z => I.ok.exfs L z hL
      exact ⟨hk, ⟨L, _, hf, hn, e, hd⟩, ih (fun b hb => hs b (by unfold frs; rw [List.filterMap_cons, hf]; exact List.mem_cons_of_mem _ hb)) hr⟩
  exact all X.outer (fun _ hb => hb) I.ok.funs

/-- the frames that run, for a call -/
theorem Inv.stack (I : Inv X pins σ H s) : s.heap.FunFrames X.base X.stack := by
  rcases I.ok.stk with e | ⟨e, hf⟩
  · rw [e]; exact I.funs
  · rw [e]
    obtain ⟨m, hn, _⟩ := I.loc
    refine .cons (by rw [I.ok.kind]; decide) hf hn ?_ I.funs
    exact Heap.get?_none_of_le (Nat.le_trans I.ok.bsz I.ok.above)
theorem Inv.stkSub (I : Inv X pins σ H s) : ∀ b ∈ frs X.stack, b ∈ X.env.locals :: X.fs := fun b hb => by
  rcases I.ok.stk with e | ⟨e, hf⟩
  · rw [e] at hb; exact List.mem_cons_of_mem _ hb
  · rw [e] at hb
    unfold frs at hb
    rw [List.filterMap_cons, hf] at hb
    exact hb
theorem Inv.stkFree (I : Inv X pins σ H s) : ∀ b ∈ frs X.stack, H b = none := fun b hb => by
  rcases List.mem_cons.mp (I.stkSub b hb) with e | hb
  · rw [e]; exact I.free
  · obtain ⟨_, o, ho, _⟩ := I.ok.funs.mem hb
    exact I.base.free b o ho (I.ok.frf b hb) fun z => I.ok.exfs b z hb

/-- THE STEP: the untracked objects but the frame and the records at ch are kept (the callers' frames up to slots), the frame's map is kept, the new abstract heap is held -/
theorem Inv.step {g' : Array GenState} {t' : Nat} {d' : Drawn} {ch : List Addr} (I : Inv X pins σ H s)
    (hch : ∀ b ∈ ch, (b ∈ X.ex ∨ X.s_0.heap.objs.size ≤ b) ∧ b ≠ X.env.locals ∧ (∀ x c, X.env.cells.lookup x = some c → c ≠ b) ∧ ∀ p ∈ X.pn ++ pins, p.1 ≠ b)
    (keep : ∀ b o, b ≠ X.env.locals → b ∉ X.fs → b ∉ ch → s.heap.get? b = some o → H b = none → h'.get? b = some o)
    (slot : ∀ b o, b ≠ X.env.locals → b ∈ X.fs → b ∉ ch → s.heap.get? b = some o → H b = none → ∃ sl, h'.get? b = some { o with slots := sl }) (free : ∀ b o, b ∉ ch → s.heap.get? b = some o → H b = none → H' b = none)
    (there : ∀ b o, b ∉ ch → s.heap.get? b = some o → ∃ o', h'.get? b = some o')
    (tups : ∀ b xs, H b = some (.tup xs) → H' b = some (.tup xs)) (frzs : ∀ b o u, H b = some (.frz o u) → H' b = some (.frz o u)) (tbls : ∀ b ps, H b = some (.tbl ps) → ∃ more, H' b = some (.tbl (ps ++ more)))
    (ns : ∀ m, s.heap.Ns X.env.locals m → h'.Ns X.env.locals m) (hok : HOk X.prog X.w H' h') (hg : AllBare g') :
    Inv X pins σ H' { s with heap := h', gens := g', drawn := d', toks := t' } := by
  have neL : ∀ b o, X.s_0.heap.get? b = some o → b ≠ X.env.locals := fun b o e => Nat.ne_of_lt (Nat.lt_of_lt_of_le (Heap.lt_size e) I.ok.above)
  have neC : ∀ b o, X.s_0.heap.get? b = some o → b ∉ X.ex → b ∉ ch := fun b o e hx hb => by
    rcases (hch b hb).1 with z | z
    · exact hx z
    · exact absurd (Nat.lt_of_lt_of_le (Heap.lt_size e) z) (Nat.lt_irrefl _)
  have cellK : ∀ x c, X.env.cells.lookup x = some c → ∀ v, s.heap.IsCell c v → h'.IsCell c v := fun x c e v ⟨o, ho, hd⟩ => by
    have nch : c ∉ ch := fun z => (hch c z).2.2.1 x c e rfl
    by_cases hc : c ∈ X.fs
    · obtain ⟨sl, q⟩ := slot c o (I.cne x c e) hc nch ho (I.freeC x c e)
      exact ⟨_, q, hd⟩
    · exact ⟨o, keep c o (I.cne x c e) hc nch ho (I.freeC x c e), hd⟩
  refine ⟨I.ok, I.os, hg, ⟨fun b o e n hb hx => ?_, fun b o e n hb hx => ?_, fun b o e n hx => ?_, fun b o e hx => ?_, fun b xs e => tups b xs (I.base.tups b xs e), fun b o xs e => frzs b o xs (I.base.frzs b o xs e), fun b ps e => ?_⟩, ?_, fun x c e => ?_, ?_, fun x c e => ?_, fun p hp => ?_, hok, I.len⟩
  · exact keep b o (neL b o e) hb (neC b o e hx) (I.base.keep b o e n hb hx) (I.base.free b o e n hx)
  · obtain ⟨sl, e1⟩ := I.base.slot b o e n hb hx
    obtain ⟨sl', e2⟩ := slot b _ (neL b o e) hb (neC b o e hx) e1 (I.base.free b o e n hx)
    exact ⟨sl', e2⟩
  · obtain ⟨o', e1⟩ := I.base.there b o e hx
    exact free b o' (neC b o e hx) e1 (I.base.free b o e n hx)
  · obtain ⟨o', e1⟩ := I.base.there b o e hx
    exact there b o' (neC b o e hx) e1
  · obtain ⟨m1, e1⟩ := I.base.tbls b ps e
    obtain ⟨m2, e2⟩ := tbls b _ e1
    exact ⟨m1 ++ m2, by rw [e2, Array.append_assoc]⟩
  · obtain ⟨m, hn, hl⟩ := I.loc
    refine ⟨m, ns m hn, fun i x v e1 e2 e3 => ?_⟩
    obtain ⟨u, r, l⟩ := hl i x v e1 e2 e3
    refine ⟨u, r, ?_⟩
    rcases l with l | ⟨k, c, e, z⟩
    · exact .inl l
    · exact .inr ⟨k, c, e, cellK x c e _ z⟩
  · obtain ⟨v, z⟩ := I.cell x c e
    exact ⟨v, cellK x c e v z⟩
  · obtain ⟨m, ⟨o, _, _, ho, _⟩, _⟩ := I.loc
    exact free _ o (fun z => (hch _ z).2.1 rfl) ho I.free
  · obtain ⟨v, o, ho, hd⟩ := I.cell x c e
    exact free c o (fun z => (hch c z).2.2.1 x c e rfl) ho (I.freeC x c e)
  · obtain ⟨e, n, ne, nf, d⟩ := I.pin p hp
    have nch : p.1 ∉ ch := fun z => (hch p.1 z).2.2.2 p hp rfl
    exact ⟨keep p.1 p.2 ne nf nch e n, free p.1 p.2 nch e n, ne, nf, d⟩
/-- .. where the frame's own object is kept too -/
theorem Inv.un {t' : Nat} (I : Inv X pins σ H s) (u : Un X.fs [] H H' s.heap h') (hok : HOk X.prog X.w H' h') : Inv X pins σ H' { s with heap := h', toks := t' } := by
  obtain ⟨m, ⟨o, es, ep, ho, r⟩, _⟩ := id I.loc
  obtain ⟨sl, hL⟩ := u.any ho I.free (by simp)
  exact I.step (g' := s.gens) (d' := s.drawn) (ch := []) (fun _ z => nomatch z) (fun b o _ hb _ e n => u.keep b o e n hb (by simp)) (fun b o _ hb _ e n => u.slot b o e n hb (by simp)) (fun b o _ e n => u.free b o e n (by simp)) (fun b o _ e => u.there b o e (by simp)) u.tups u.frzs u.tbls (fun m' hm => by
    obtain ⟨o', es', ep', ho', r'⟩ := hm
    rw [ho] at ho'; cases ho'
    exact ⟨_, es', ep', hL, r'⟩) hok I.bare
/-- behind a call (or a comprehension's block): the slots of this frame may have changed too, the records at ch may have turned -/
theorem Inv.call {g' : Array GenState} {t' : Nat} {d' : Drawn} {ch : List Addr} (I : Inv X pins σ H s) (u : Un (frs X.stack) ch H H' s.heap h') (hok : HOk X.prog X.w H' h') (hg : AllBare g')
    (hch : ∀ b ∈ ch, (b ∈ X.ex ∨ X.s_0.heap.objs.size ≤ b) ∧ b ≠ X.env.locals ∧ (∀ x c, X.env.cells.lookup x = some c → c ≠ b) ∧ ∀ p ∈ X.pn ++ pins, p.1 ≠ b) :
    Inv X pins σ H' { s with heap := h', gens := g', drawn := d', toks := t' } := by
  obtain ⟨m, ⟨o, es, ep, ho, r⟩, _⟩ := id I.loc
  obtain ⟨sl, hL⟩ := u.any ho I.free fun z => (hch _ z).2.1 rfl
  exact I.step (ch := ch) hch (fun b o hL hb hc e n => u.keep b o e n (fun z => (List.mem_cons.mp (I.stkSub b z)).elim hL hb) hc) (fun b o _ _ hc e n => u.any e n hc) (fun b o hc e n => u.free b o e n hc) (fun b o hc e => u.there b o e hc) u.tups u.frzs u.tbls (fun m' hm => by
    obtain ⟨o', es', ep', ho', r'⟩ := hm
    rw [ho] at ho'; cases ho'
    exact ⟨_, es', ep', hL, r'⟩) hok hg
/-- an untracked record of ours (an iterator) has turned -/
theorem Inv.turned {t' : Nat} {it : Addr} (I : Inv X pins σ H s) (k : ∀ b o, b ≠ it → s.heap.get? b = some o → h'.get? b = some o) (hn : H it = none) (hL : it ≠ X.env.locals)
    (h1 : it ∈ X.ex ∨ X.s_0.heap.objs.size ≤ it) (h2 : ∀ x c, X.env.cells.lookup x = some c → c ≠ it) (h3 : ∀ p ∈ X.pn ++ pins, p.1 ≠ it) : Inv X pins σ H { s with heap := h', toks := t' } := by
  have nit : ∀ b u, H b = some u → b ≠ it := fun b u e z => by rw [z, hn] at e; cases e
  refine I.step (g' := s.gens) (d' := s.drawn) (ch := [it]) (fun b hb => ?_) (fun b o _ _ hc e _ => k b o (fun z => hc (by simp [z])) e) (fun b o _ _ hc e _ => ⟨o.slots, k b o (fun z => hc (by simp [z])) e⟩) (fun _ _ _ _ n => n)
    (fun b o hc e => ⟨o, k b o (fun z => hc (by simp [z])) e⟩) (fun _ _ e => e) (fun _ _ _ e => e) (fun b ps e => ⟨#[], by rw [e]; simp⟩) (fun m hm => ?_) (fun b u e => ?_) I.bare
  · have e : b = it := by simpa using hb
    subst e
    exact ⟨h1, hL, h2, h3⟩
  · obtain ⟨o, es, ep, ho, r⟩ := hm
    exact ⟨o, es, ep, k _ o (Ne.symm hL) ho, r⟩
  · refine (I.hok b u e).stay (fun c v hc q => k c v ?_ q) (fun _ q => q) fun _ _ q => q
    rcases hc with z | z
    · rw [z]; exact nit b u e
    · exact nit c _ z
theorem Inv.tok (I : Inv X pins σ H s) (t : Nat) : Inv X pins σ H { s with toks := t } := I.un (h' := s.heap) (t' := t) Un.refl I.hok
/-- all objects kept -/
theorem Inv.kept {t' : Nat} (I : Inv X pins σ H s) (k : ∀ b u, s.heap.get? b = some u → h'.get? b = some u) : Inv X pins σ H { s with heap := h', toks := t' } := I.un (Un.kept k) (I.hok.kept k)
/-- a new object laid and tracked -/
theorem Inv.laid {a : Addr} {o : HO} {t' : Nat} (I : Inv X pins σ H s) (k : ∀ b u, s.heap.get? b = some u → h'.get? b = some u) (hp : s.heap.objs.size ≤ a) (new : ObjOk X.prog X.w (upd H a o) h' a o) :
    Inv X pins σ (upd H a o) { s with heap := h', toks := t' } := I.un (Un.laid k hp (I.hok.fresh hp)) (I.hok.laid k hp new)
/-- an object written -/
theorem Inv.write {x e : Addr} {o : HO} {t' : Nat} (I : Inv X pins σ H s) (mu : Mut (H x)) (he : e = x ∨ H e = some (.own x)) (k : ∀ b u, b ≠ e → s.heap.get? b = some u → h'.get? b = some u) (heo : ∃ u, h'.get? e = some u)
    (new : ObjOk X.prog X.w (upd H x o) h' x o) : Inv X pins σ (upd H x o) { s with heap := h', toks := t' } := I.un (Un.write mu he k heo) (I.hok.write mu he k heo new)
/-- forgetting slots, pins -/
theorem Inv.weak {σ' : List (Option V)} (I : Inv X pins σ H s) (hl : σ'.length = σ.length) (w : ∀ (i : Nat) v, σ'[i]? = some (some v) → σ[i]? = some (some v)) : Inv X pins σ' H s :=
  ⟨I.ok, I.os, I.bare, I.base, let ⟨m, hn, hl'⟩ := I.loc; ⟨m, hn, fun i x v e1 e2 e3 => hl' i x v e1 (w i v e2) e3⟩, I.cell, I.free, I.freeC, I.pin, I.hok, hl.trans I.len⟩
theorem Inv.pins_of {pins' : List (Addr × Obj)} (I : Inv X pins σ H s) (h : ∀ p ∈ pins', s.heap.get? p.1 = some p.2 ∧ H p.1 = none ∧ p.1 ≠ X.env.locals ∧ p.1 ∉ X.fs ∧ ∀ v, p.2.data ≠ .cell v) : Inv X pins' σ H s :=
  ⟨I.ok, I.os, I.bare, I.base, I.loc, I.cell, I.free, I.freeC, fun p hp => (List.mem_append.mp hp).elim (fun z => I.pin p (List.mem_append_left _ z)) (h p), I.hok, I.len⟩

theorem nodup_ix {N : List Str} (hN : N.Nodup) {i j : Nat} {x : Str} (a : N[i]? = some x) (b : N[j]? = some x) : i = j := by
  obtain ⟨h1, e1⟩ := List.getElem?_eq_some_iff.mp a
  obtain ⟨h2, e2⟩ := List.getElem?_eq_some_iff.mp b
  exact (List.getElem_inj hN).mp (e1.trans e2.symm)

/-- a name is stored; what changed -/
theorem store_ok2 {M : Model} {A : Around} {E : Value → Shared → Prop} {i : Nat} {x : Str} {v : V} {u : Value} {Q : Unit → Shared → Prop} (I : Inv X pins σ H s) (hN : X.N.Nodup) (hi : X.N[i]? = some x) (hx : Loc X.env.scope x) (r : RelV v u)
    (h : ∀ s', Inv X pins (σ.set i (some v)) H s' → (∃ a, Heap.SameBut a s.heap s'.heap ∧ (a = X.env.locals ∨ X.env.cells.lookup x = some a)) → Q () s') (hf : X.fn x = true ∨ X.env.scope.names.lookup x = some .local := by first | exact .inl rfl | exact .inr rfl | assumption) : wpAny M A (storeName X.env x u) Q E s := by
  obtain ⟨m, hn, hl⟩ := id I.loc
  have hcls : (X.env.scope.kind == .class || (X.env.scope.kind == .module && X.env.locals != X.env.globals)) = false := by rw [I.ok.kind]; rfl
  have hiσ : i < σ.length := by rw [I.len]; exact (List.getElem?_eq_some_iff.mp hi).1
  have cne := I.cne
  have tracked : ∀ {a : Addr} {h' : Heap}, (∃ o, s.heap.get? a = some o ∧ H a = none) → Heap.SameBut a s.heap h' → HOk X.prog X.w H h' := fun {a h'} ha hs b ob e => by
    obtain ⟨_, _, hfree⟩ := ha
    refine (I.hok b ob e).stay (fun c w' hc q => (hs.2 c ?_).trans q) (fun _ q => q) fun _ _ q => q
    rintro rfl
    rcases hc with rfl | hc
    · rw [hfree] at e; cases e
    · rw [hfree] at hc; cases hc
  rcases hx with hk | hk
  · refine wpAny_storeName_local hk hn (fun h' hn' hs => ?_) hcls
    obtain ⟨oL, _, _, hoL, _⟩ := id hn
    refine h _ ⟨I.ok, I.os, I.bare, ⟨fun b o e n hb hx => ?_, fun b o e n hb hx => ?_, I.base.free, fun b o e hx => ?_, I.base.tups, I.base.frzs, I.base.tbls⟩, ⟨_, hn', fun j y v' e1 e2 e3 => ?_⟩, fun y c e => ?_, I.free, I.freeC, fun p hp => ?_, tracked ⟨oL, hoL, I.free⟩ hs, by simpa using I.len⟩ ⟨_, hs, .inl rfl⟩
    · exact (hs.2 b (Nat.ne_of_lt (Nat.lt_of_lt_of_le (Heap.lt_size e) I.ok.above))).trans (I.base.keep b o e n hb hx)
    · obtain ⟨sl, e1⟩ := I.base.slot b o e n hb hx
      exact ⟨sl, (hs.2 b (Nat.ne_of_lt (Nat.lt_of_lt_of_le (Heap.lt_size e) I.ok.above))).trans e1⟩
    · obtain ⟨o', e1⟩ := I.base.there b o e hx
      exact ⟨o', (hs.2 b (Nat.ne_of_lt (Nat.lt_of_lt_of_le (Heap.lt_size e) I.ok.above))).trans e1⟩
    · by_cases hj : j = i
      · subst hj
        rw [hi] at e1; cases e1
        rw [List.getElem?_set_self hiσ] at e2
        cases e2
        exact ⟨u, r, .inl ⟨hk, by simp⟩⟩
      · rw [List.getElem?_set_ne (Ne.symm hj)] at e2
        obtain ⟨u', r', q⟩ := hl j y v' e1 e2 e3
        refine ⟨u', r', ?_⟩
        rcases q with ⟨k, e⟩ | ⟨k, c, e, z⟩
        · refine .inl ⟨k, ?_⟩
          have : y ≠ x := fun e => hj (nodup_ix hN e1 (e ▸ hi))
          simp [this, e]
        · exact .inr ⟨k, c, e, z.sameBut hs (cne y c e)⟩
    · obtain ⟨w', z⟩ := I.cell y c e
      exact ⟨w', z.sameBut hs (cne y c e)⟩
    · obtain ⟨e, n, ne, nf, d⟩ := I.pin p hp
      exact ⟨(hs.2 p.1 ne).trans e, n, ne, nf, d⟩
  · have hfn : X.fn x = true := by
      rcases hf with z | z
      · exact z
      · rw [z] at hk; cases hk
    obtain ⟨c, hc⟩ := I.ok.has x (.inl hk)
    obtain ⟨w', z⟩ := I.cell x c hc
    refine wpAny_storeName_cell I.ok.kind hk hc z (fun h' hc' hs => ?_)
    obtain ⟨oc, hoc, hocd⟩ := id z
    refine h { s with heap := h' } ⟨I.ok, I.os, I.bare, ⟨fun b o e n hb hx => ?_, fun b o e n hb hx => ?_, I.base.free, fun b o e hx => ?_, I.base.tups, I.base.frzs, I.base.tbls⟩, ⟨m, hn.sameBut hs (Ne.symm (cne x c hc)), fun j y v' e1 e2 e3 => ?_⟩, fun y c' e => ?_, I.free, I.freeC, fun p hp => ?_, tracked ⟨oc, hoc, I.freeC x c hc⟩ hs, by simpa using I.len⟩ ⟨c, hs, .inr hc⟩
    · exact (hs.2 b (Nat.ne_of_lt (Nat.lt_of_lt_of_le (Heap.lt_size e) (I.ok.cab x c hfn hc)))).trans (I.base.keep b o e n hb hx)
    · obtain ⟨sl, e1⟩ := I.base.slot b o e n hb hx
      exact ⟨sl, (hs.2 b (Nat.ne_of_lt (Nat.lt_of_lt_of_le (Heap.lt_size e) (I.ok.cab x c hfn hc)))).trans e1⟩
    · obtain ⟨o', e1⟩ := I.base.there b o e hx
      exact ⟨o', (hs.2 b (Nat.ne_of_lt (Nat.lt_of_lt_of_le (Heap.lt_size e) (I.ok.cab x c hfn hc)))).trans e1⟩
    · by_cases hj : j = i
      · subst hj
        rw [hi] at e1; cases e1
        rw [List.getElem?_set_self hiσ] at e2
        cases e2
        exact ⟨u, r, .inr ⟨.inl hk, c, hc, hc'⟩⟩
      · rw [List.getElem?_set_ne (Ne.symm hj)] at e2
        obtain ⟨u', r', q⟩ := hl j y v' e1 e2 e3
        refine ⟨u', r', ?_⟩
        rcases q with q | ⟨k, c', e, z'⟩
        · exact .inl q
        · refine .inr ⟨k, c', e, z'.sameBut hs ?_⟩
          rintro rfl
          exact hj (nodup_ix hN e1 (I.ok.inj _ _ _ e hc ▸ hi))
    · by_cases hcc : c' = c
      · subst hcc; exact ⟨_, hc'⟩
      · obtain ⟨w2, z2⟩ := I.cell y c' e
        exact ⟨w2, z2.sameBut hs hcc⟩
    · obtain ⟨e, n, ne, nf, d⟩ := I.pin p hp
      refine ⟨(hs.2 p.1 ?_).trans e, n, ne, nf, d⟩
      intro q
      rw [q, hoc] at e
      have q' : oc = p.2 := Option.some.inj e
      exact d w' (by rw [← q']; exact hocd)
theorem store_ok {M : Model} {A : Around} {E : Value → Shared → Prop} {i : Nat} {x : Str} {v : V} {u : Value} {Q : Unit → Shared → Prop} (I : Inv X pins σ H s) (hN : X.N.Nodup) (hi : X.N[i]? = some x) (hx : Loc X.env.scope x) (r : RelV v u)
    (h : ∀ s', Inv X pins (σ.set i (some v)) H s' → Q () s') (hf : X.fn x = true ∨ X.env.scope.names.lookup x = some .local := by first | exact .inl rfl | exact .inr rfl | assumption) : wpAny M A (storeName X.env x u) Q E s :=
  store_ok2 I hN hi hx r (fun s' I' _ => h s' I') hf
/-- behind a call or a block, the state as it is -/
theorem Inv.call' {s' : Shared} {ch : List Addr} (I : Inv X pins σ H s) (ho : s'.os = s.os) (u : Un (frs X.stack) ch H H' s.heap s'.heap) (hok : HOk X.prog X.w H' s'.heap) (hg : AllBare s'.gens)
    (hch : ∀ b ∈ ch, (b ∈ X.ex ∨ X.s_0.heap.objs.size ≤ b) ∧ b ≠ X.env.locals ∧ (∀ x c, X.env.cells.lookup x = some c → c ≠ b) ∧ ∀ p ∈ X.pn ++ pins, p.1 ≠ b) : Inv X pins σ H' s' := by
  obtain ⟨h', g', d', t', o'⟩ := s'
  have e : o' = s.os := ho
  subst e
  exact I.call (g' := g') (t' := t') (d' := d') u hok hg hch
end

/-! ### the judgements -/
/-- an exception: its class, its own dict's address (where it has one), the abstract heap behind it -/
abbrev XK := Value → Option Addr → Hp → Prop
abbrev St := List (Option V)
abbrev VK := V → Hp → Prop
/-- an expression's reading; a test's; an argument list's -/
abbrev TE := St → Hp → VK → Prop
abbrev TT := St → Hp → (Bool → Hp → Prop) → Prop
abbrev TA := St → Hp → (List V → Hp → Prop) → Prop
/-- what is wanted behind a statement -/
structure Ends where
  nx : St → Hp → Prop
  rt : VK
  bk : St → Hp → Prop := fun _ _ => False
  ct : St → Hp → Prop := fun _ _ => False
abbrev TS := Ends → St → Hp → Prop

def EP (X : Cx) (pins : List (Addr × Obj)) (σ : St) (Q : VK) (u : Value) (s' : Shared) : Prop := ∃ v H', Inv X pins σ H' s' ∧ RelV v u ∧ Q v H'
def TP (X : Cx) (pins : List (Addr × Obj)) (σ : St) (Q : Bool → Hp → Prop) (b : Bool) (s' : Shared) : Prop := ∃ H', Inv X pins σ H' s' ∧ Q b H'
def AP (X : Cx) (pins : List (Addr × Obj)) (σ : St) (Q : List V → Hp → Prop) (us : List Value) (s' : Shared) : Prop := ∃ vs H', Inv X pins σ H' s' ∧ Vals vs us ∧ Q vs H'
def SP (X : Cx) (pins : List (Addr × Obj)) (D : Ends) (f : Flow) (s' : Shared) : Prop :=
  match f with
  | .next => ∃ σ' H', Inv X pins σ' H' s' ∧ D.nx σ' H'
  | .brk => ∃ σ' H', Inv X pins σ' H' s' ∧ D.bk σ' H'
  | .cont => ∃ σ' H', Inv X pins σ' H' s' ∧ D.ct σ' H'
  | .ret u => ∃ v σ' H', Inv X pins σ' H' s' ∧ RelV v u ∧ D.rt v H'

def PE (X : Cx) (e : Expr) (t : TE) : Prop :=
  ∀ (pins : List (Addr × Obj)) (s : Shared) (σ : St) (H : Hp) (Q : VK), Inv X pins σ H s → t σ H Q → wpAny (model X.prog X.w) X.A (eval e X.env) (EP X pins σ Q) X.xe s
def PT (X : Cx) (e : Expr) (t : TT) : Prop :=
  ∀ (pins : List (Addr × Obj)) (s : Shared) (σ : St) (H : Hp) (Q : Bool → Hp → Prop), Inv X pins σ H s → t σ H Q → wpAny (model X.prog X.w) X.A (isTrue e X.env (eval e X.env)) (TP X pins σ Q) X.xe s
/-- a test whatever its 'whole' is (and, or) -/
def PW (X : Cx) (e : Expr) (t : TT) : Prop :=
  ∀ (whole : Sem Value) (pins : List (Addr × Obj)) (s : Shared) (σ : St) (H : Hp) (Q : Bool → Hp → Prop), Inv X pins σ H s → t σ H Q → wpAny (model X.prog X.w) X.A (isTrue e X.env whole) (TP X pins σ Q) X.xe s
theorem PW.pt {X : Cx} {e : Expr} {t : TT} (h : PW X e t) : PT X e t := h _
/-- an argument list (no star), from the left -/
def PA (X : Cx) (es : List Expr) (t : TA) : Prop :=
  ∀ (pos : Pos) (pins : List (Addr × Obj)) (s : Shared) (σ : St) (H : Hp) (Q : List V → Hp → Prop), Inv X pins σ H s → t σ H Q → wpAny (model X.prog X.w) X.A (spliced (backTo pos (starEach es X.env))) (AP X pins σ Q) X.xe s
def PS (X : Cx) (st : Stmt) (t : TS) : Prop :=
  ∀ (pins : List (Addr × Obj)) (s : Shared) (σ : St) (H : Hp) (D : Ends), Inv X pins σ H s → t D σ H → wpAny (model X.prog X.w) X.A (exec st X.env) (SP X pins D) X.xe s
def PSs (X : Cx) (st : List Stmt) (t : TS) : Prop :=
  ∀ (pins : List (Addr × Obj)) (s : Shared) (σ : St) (H : Hp) (D : Ends), Inv X pins σ H s → t D σ H → wpAny (model X.prog X.w) X.A (execs st X.env) (SP X pins D) X.xe s
/-- weaken the end -/
theorem thn {α : Type} {t : Sem α} {Q Q' : α → Shared → Prop} {M : Model} {A : Around} {E : Value → Shared → Prop} {s : Shared} (h : wpAny M A t Q E s) (hQ : ∀ a s, Q a s → Q' a s) : wpAny M A t Q' E s := wpAny_mono h hQ fun _ _ x => x
end L2

namespace L2
open PySem PySem.Spec PyProof.Rows
section
variable {X : Cx}

/-- two expressions in a row -/
theorem bin {a b : Expr} {ta tb : TE} (ha : PE X a ta) (hb : PE X b tb) {pins : List (Addr × Obj)} {s : Shared} {σ : St} {H : Hp} {R : V → V → Hp → Prop} (I : Inv X pins σ H s) (h : ta σ H fun x H1 => tb σ H1 fun y H2 => R x y H2)
    {α : Type} {Q : α → Shared → Prop} {f : Value → Value → Sem α}
    (hf : ∀ v u s2 x y H2, Inv X pins σ H2 s2 → RelV x v → RelV y u → R x y H2 → wpAny (model X.prog X.w) X.A (f v u) Q X.xe s2) :
    wpAny (model X.prog X.w) X.A (eval a X.env) (fun v s₁ => wpAny (model X.prog X.w) X.A (eval b X.env) (fun u s₂ => wpAny (model X.prog X.w) X.A (f v u) Q X.xe s₂) X.xe s₁) X.xe s := by
  refine thn (ha pins s σ H _ I h) fun v s1 ⟨x, H1, I1, r1, q1⟩ => ?_
  refine thn (hb pins s1 σ H1 _ I1 q1) fun u s2 ⟨y, H2, I2, r2, q2⟩ => ?_
  exact hf v u s2 x y H2 I2 r1 r2 q2

/-! ### names and constants -/
def tVar (i : Nat) : TE := fun σ H Q => ∃ v, σ[i]? = some (some v) ∧ Q v H
def tC (v : V) : TE := fun _ H Q => Q v H
theorem pe_var {i : Nat} {x : Str} {pos : Pos} (hN : X.N[i]? = some x) (hv : Vis X.env.scope x) (hd : (x == ("__debug__" : Str)) = false := by decide) (hcd : (x == ("__classdict__" : Str)) = false := by decide) : PE X (.Name x pos) (tVar i) := by
  intro pins s σ H Q I h
  obtain ⟨v, e, h⟩ := h
  obtain ⟨m, hn, hl⟩ := I.loc
  obtain ⟨u, r, l⟩ := hl i x v hN e hv
  have fin : EP X pins σ Q u s := ⟨v, H, I, r, h⟩
  rcases l with ⟨hk, hm⟩ | ⟨hk, c, hc, hcell⟩
  · exact wpAny_Name (wpAny_loadName_local I.ok.kind hk hn hm fin) hd
  · rcases hk with hk | hk
    · exact wpAny_Name (wpAny_loadName_cell I.ok.kind hk hc hcell fin) hd
    · exact wpAny_Name (wpAny_loadName_free I.ok.kind hk hc hcell fin hcd) hd
theorem pe_int {i j pos} : PE X (.Constant (.int i) j pos) (tC (.int i)) := fun _ _ _ H _ I h => wpAny_Constant_int ⟨.int i, H, I.tok _, ⟨_, rfl⟩, h⟩
theorem pe_bl {b j pos} : PE X (.Constant (.bool b) j pos) (tC (.bl b)) := fun _ _ _ H _ I h => Constant_bool ⟨.bl b, H, I, rfl, h⟩
/-- a global name of the def -/
def Gl (X : Cx) (x : Str) : Prop := X.env.kindOf x = some .globalImplicit
theorem ld_glob {E : Value → Shared → Prop} {pins : List (Addr × Obj)} {s : Shared} {σ : St} {H : Hp} {x : Str} {u : Value} {pos : Pos} {Q : Value → Shared → Prop} (I : Inv X pins σ H s) (hg : Gl X x) (hm : X.mg x = some u) (h : Q u s)
    (hd : (x == ("__debug__" : Str)) = false := by decide) : wpAny (model X.prog X.w) X.A (eval (.Name x pos) X.env) Q E s :=
  Calls.Name_function_global I.ok.kind hg (Calls.loadGlobal_global (by rw [I.ok.glob]; exact I.mod.glob.keeps I.bk) hm h) hd
theorem ld_blt {E : Value → Shared → Prop} {pins : List (Addr × Obj)} {s : Shared} {σ : St} {H : Hp} {x : Str} {u : Value} {pos : Pos} {Q : Value → Shared → Prop} (I : Inv X pins σ H s) (hg : Gl X x) (hm : X.mg x = none) (hv : bootBuiltins x = some u) (h : Q u s)
    (hn : x ≠ "__name__" := by decide) (hd : (x == ("__debug__" : Str)) = false := by decide) : wpAny (model X.prog X.w) X.A (eval (.Name x pos) X.env) Q E s := by
  obtain ⟨mb, h1, h2⟩ := I.mod.blt
  exact Calls.Name_function_global I.ok.kind hg (Calls.loadGlobal_builtin (by rw [I.ok.glob]; exact I.mod.glob.keeps I.bk) hm (by rw [I.ok.blt]; exact h1.keeps I.bk) ((h2 x hn).trans hv) h) hd
/-- a module's constant, a class, a function, as a value -/
theorem pe_glob {x : Str} {v : V} {u : Value} {pos : Pos} (hg : Gl X x) (hm : X.mg x = some u) (r : RelV v u) (hd : (x == ("__debug__" : Str)) = false := by decide) : PE X (.Name x pos) (tC v) :=
  fun _ _ _ H _ I h => ld_glob I hg hm ⟨v, H, I, r, h⟩ hd
/-! ### arithmetic -/
variable {a b : Expr} {ta tb : TE} {pos : Pos}
/-! ### comparisons -/
def PC (X : Cx) (op : CmpOp) (a b : Expr) (t : TE) : Prop :=
  ∀ (pins : List (Addr × Obj)) (s : Shared) (σ : St) (H : Hp) (Q : VK), Inv X pins σ H s → t σ H Q →
    wpAny (model X.prog X.w) X.A (eval a X.env) (fun v s₁ => wpAny (model X.prog X.w) X.A (eval b X.env) (fun u s₂ => wpAny (model X.prog X.w) X.A (compareOp op v u) (EP X pins σ Q) X.xe s₂) X.xe s₁) X.xe s
/-- a comparison as a value, as a test -/
def tB (t : TE) : TT := fun σ H Q => t σ H fun x H1 => ∃ c, x = .bl c ∧ Q c H1
theorem pe_cmp {op : CmpOp} {t : TE} (h : PC X op a b t) (h1 : behindInMarks op b = false := by first | exact nobehind _ (by decide) (by decide) | rfl) : PE X (.Compare a [op] [b] pos) t := fun pins s σ H Q I hw => wpAny_Compare1 (h pins s σ H Q I hw) h1
theorem pt_cmp {op : CmpOp} {t : TE} (h : PC X op a b t) (h1 : behindInMarks op b = false := by first | exact nobehind _ (by decide) (by decide) | rfl) : PT X (.Compare a [op] [b] pos) (tB t) := by
  intro pins s σ H Q I hw
  refine wpAny_isTrue_Compare1 (thn (h pins s σ H _ I hw) fun v s1 h1 => thn h1 fun u s2 h2 => thn h2 fun c s3 ⟨x, H1, I1, r1, q1⟩ => ?_) h1
  obtain ⟨d, rfl, q⟩ := q1
  cases r1
  exact wpAny_truthy_bool ⟨H1, I1, q⟩
/-- an expression whose value is a bool, as a test -/
theorem pt_val {e : Expr} {t : TE} (h : PE X e t) (he : ∀ whole, isTrue e X.env whole = (do let v ← whole; standAt e.pos; holding [v] (truthy v)) := by intro _; rfl) : PT X e (tB t) := by
  intro pins s σ H Q I hw
  refine isTrue_plain (thn (h pins s σ H _ I hw) fun v s1 ⟨x, H1, I1, r1, q1⟩ => ?_) (he _)
  obtain ⟨d, rfl, q⟩ := q1
  cases r1
  exact wpAny_truthy_bool ⟨H1, I1, q⟩

/-! ### and, or, not -/
variable {tA tB' : TT} {rest : List Expr}
def tAnd (t u : TT) : TT := fun σ H Q => t σ H fun c H1 => if c = true then u σ H1 Q else Q false H1
def tOr (t u : TT) : TT := fun σ H Q => t σ H fun c H1 => if c = true then Q true H1 else u σ H1 Q
def tNot (t : TT) : TT := fun σ H Q => t σ H fun c H1 => Q (!c) H1
theorem pw_and1 (ha : PT X a tA) : PW X (.BoolOp .And [a] pos) tA := by
  intro wh pins s σ H Q I h
  refine isTrue_and (thn (ha pins s σ H Q I h) fun c s1 e => ?_)
  cases c with
  | true => exact isTrue_and_nil e
  | false => exact e
theorem pw_or1 (ha : PT X a tA) : PW X (.BoolOp .Or [a] pos) tA := by
  intro wh pins s σ H Q I h
  refine isTrue_or (thn (ha pins s σ H Q I h) fun c s1 e => ?_)
  cases c with
  | false => exact isTrue_or_nil e
  | true => exact e
theorem pw_and (ha : PT X a tA) (hb : PW X (.BoolOp .And (b :: rest) pos) tB') : PW X (.BoolOp .And (a :: b :: rest) pos) (tAnd tA tB') := by
  intro wh pins s σ H Q I h
  refine isTrue_and (thn (ha pins s σ H _ I h) fun c s1 ⟨H1, I1, q1⟩ => ?_)
  cases c with
  | true => exact hb wh pins s1 σ H1 Q I1 q1
  | false => exact ⟨H1, I1, q1⟩
theorem pw_or (ha : PT X a tA) (hb : PW X (.BoolOp .Or (b :: rest) pos) tB') : PW X (.BoolOp .Or (a :: b :: rest) pos) (tOr tA tB') := by
  intro wh pins s σ H Q I h
  refine isTrue_or (thn (ha pins s σ H _ I h) fun c s1 ⟨H1, I1, q1⟩ => ?_)
  cases c with
  | true => exact ⟨H1, I1, q1⟩
  | false => exact hb wh pins s1 σ H1 Q I1 q1
theorem pt_not (ha : PT X a tA) : PT X (.UnaryOp .Not a pos) (tNot tA) := by
  intro pins s σ H Q I h
  exact isTrue_not (ha pins s σ H (fun c H1 => Q (!c) H1) I h)
/-- .. as values (bools) -/
def tAndV (ta tb : TE) : TE := fun σ H Q => ta σ H fun x H1 => ∃ c, x = .bl c ∧ if c = true then tb σ H1 Q else Q (.bl false) H1
theorem pe_one {op} {t : TE} (h : PE X a t) : PE X (.BoolOp op [a] pos) t := fun pins s σ H Q I hw => BoolOp_one (h pins s σ H Q I hw)
theorem pe_and (ha : PE X a ta) (hb : PE X (.BoolOp .And (b :: rest) pos) tb) : PE X (.BoolOp .And (a :: b :: rest) pos) (tAndV ta tb) := by
  intro pins s σ H Q I h
  refine BoolOp_and (thn (ha pins s σ H _ I h) fun v s1 ⟨x, H1, I1, r1, q1⟩ => ?_)
  obtain ⟨c, rfl, q1⟩ := q1
  cases r1
  refine wpAny_truthy_bool ?_
  cases c with
  | true => exact hb pins s1 σ H1 Q I1 q1
  | false => exact ⟨.bl false, H1, I1, rfl, q1⟩
/-- a if t else b -/
def tIf (t : TT) (ta tb : TE) : TE := fun σ H Q => t σ H fun c H1 => if c = true then ta σ H1 Q else tb σ H1 Q
theorem pe_ifExp {c : Expr} (hc : PT X c tA) (ha : PE X a ta) (hb : PE X b tb) : PE X (.IfExp c a b pos) (tIf tA ta tb) := by
  intro pins s σ H Q I h
  refine wpAny_IfExp (thn (hc pins s σ H _ I h) fun d s1 ⟨H1, I1, q1⟩ => ?_)
  cases d with
  | true => exact ha pins s1 σ H1 Q I1 q1
  | false => exact hb pins s1 σ H1 Q I1 q1
end
end L2

namespace L2
open PySem PySem.Spec PyProof.Rows

/-! ### a list, a tuple that is read: tracked, frozen, or an object of the module -/
def SqL (K : PySem.W.Frag) (H : Hp) (a : Addr) (xs : List V) : Prop :=
  Rd H a (.lst xs) ∨
    ∃ (o : Obj) (its : Array Value) (n : Nat), K.lookup a = some o ∧ o.cls = .type "list" ∧ o.dict = none ∧ o.data = .seq its n ∧ its.size ≤ sizeLine ∧ Vals xs its.toList
def SqT (K : PySem.W.Frag) (H : Hp) (a : Addr) (xs : List V) : Prop :=
  Rd H a (.tup xs) ∨
    ∃ (o : Obj) (its : Array Value) (n : Nat), K.lookup a = some o ∧ o.cls = .type "tuple" ∧ o.data = .seq its n ∧ its.size ≤ sizeLine ∧ Vals xs its.toList
def absV : Value → Option V
  | .none => some .non
  | .bool b => some (.bl b)
  | .int i _ => some (.int i)
  | .str x _ => some (.str x)
  | .bytes b _ => some (.byt b)
  | .float b _ => some (.flt b)
  | .ref a => some (.ref a)
  | .type n => some (.ty n)
  | _ => none
theorem RelV.abs {x : V} {u : Value} (r : RelV x u) : absV u = some x := by
  cases x with
  | non => cases r; rfl
  | bl _ => cases r; rfl
  | int _ => obtain ⟨t, rfl⟩ := r; rfl
  | str _ => obtain ⟨t, rfl⟩ := r; rfl
  | byt _ => obtain ⟨t, rfl⟩ := r; rfl
  | flt _ => obtain ⟨t, rfl⟩ := r; rfl
  | ref _ => cases r; rfl
  | ty _ => cases r; rfl
theorem RelV.inj {x y : V} {u : Value} (r : RelV x u) (q : RelV y u) : x = y := Option.some.inj (r.abs.symm.trans q.abs)
theorem Vals.inj : ∀ {xs ys : List V} {us : List Value}, Vals xs us → Vals ys us → xs = ys
  | _, _, _, .nil, .nil => rfl
  | _, _, _, .cons r t, .cons r' t' => by rw [r.inj r', Vals.inj t t']
section
variable {X : Cx} {pins : List (Addr × Obj)} {σ : St} {H : Hp} {s : Shared} {a : Addr} {xs ys : List V}
theorem SqL.of {K : PySem.W.Frag} (h : H a = some (.lst xs)) : SqL K H a xs := .inl (.inl h)
theorem Inv.list (I : Inv X pins σ H s) (h : SqL X.K H a xs) : ∃ its : List Value, Vals xs its ∧ PlainL s.heap a its.toArray ∧ xs.length ≤ sizeLine := by
  rcases h with h | ⟨o, its, n, hk, hc, hd, hs, hz, r⟩
  · obtain ⟨z, its, n, r, e⟩ := h.ok I.hok
    exact ⟨its, r, ⟨_, n, e, rfl, rfl, rfl⟩, z⟩
  · refine ⟨its.toList, r, ⟨o, n, I.kIn a o hk, hc, hd, by simpa using hs⟩, ?_⟩
    have e := r.length
    simp only [Array.length_toList] at e
    omega
theorem Inv.tuple (I : Inv X pins σ H s) (h : SqT X.K H a xs) : ∃ its : List Value, Vals xs its ∧ IsTup s.heap a its.toArray ∧ xs.length ≤ sizeLine := by
  rcases h with h | ⟨o, its, n, hk, hc, hs, hz, r⟩
  · obtain ⟨z, its, r, p⟩ := h.ok I.hok
    exact ⟨its, r, p, z⟩
  · refine ⟨its.toList, r, ⟨o, I.kIn a o hk, hc, n, by simpa using hs⟩, ?_⟩
    have e := r.length
    simp only [Array.length_toList] at e
    omega
theorem Inv.list_inj (I : Inv X pins σ H s) (h : SqL X.K H a xs) (h' : SqL X.K H a ys) : xs = ys := by
  obtain ⟨its, r, ⟨o, n, e, _, _, d⟩, _⟩ := I.list h
  obtain ⟨its', r', ⟨o', n', e', _, _, d'⟩, _⟩ := I.list h'
  rw [e] at e'; cases e'
  rw [d] at d'
  injection d' with d1 _
  have : its = its' := by simpa using congrArg Array.toList d1
  subst this
  exact r.inj r'
end

/-! ### another wish about exceptions -/
abbrev Cx.wish (X : Cx) (E : Value → Shared → Prop) : Cx := { X with xe := E }
/-- no exception leaves -/
abbrev Cx.nox (X : Cx) : Cx := X.wish fun _ _ => False
theorem Cx.Ok.wish {X : Cx} (ok : X.Ok) (E : Value → Shared → Prop) : (X.wish E).Ok :=
  ⟨ok.mod, ok.kind, ok.glob, ok.blt, ok.above, ok.inj, ok.has, ok.cab, ok.hd, ok.frames, ok.stk, ok.exf, ok.bs, ok.bsz, ok.noex, ok.exfs, ok.funs, ok.frf⟩
theorem Cx.Ok.unwish {X : Cx} {E : Value → Shared → Prop} (ok : (X.wish E).Ok) : X.Ok :=
  ⟨ok.mod, ok.kind, ok.glob, ok.blt, ok.above, ok.inj, ok.has, ok.cab, ok.hd, ok.frames, ok.stk, ok.exf, ok.bs, ok.bsz, ok.noex, ok.exfs, ok.funs, ok.frf⟩
section
variable {X : Cx} {pins : List (Addr × Obj)} {σ : St} {H : Hp} {s : Shared} {E : Value → Shared → Prop}
theorem Inv.wish (I : Inv X pins σ H s) (E : Value → Shared → Prop) : Inv (X.wish E) pins σ H s := ⟨I.ok.wish E, I.os, I.bare, I.base, I.loc, I.cell, I.free, I.freeC, I.pin, I.hok, I.len⟩
theorem Inv.unwish (I : Inv (X.wish E) pins σ H s) : Inv X pins σ H s := ⟨I.ok.unwish, I.os, I.bare, I.base, I.loc, I.cell, I.free, I.freeC, I.pin, I.hok, I.len⟩
theorem SP.unwish {D : Ends} {f : Flow} {s' : Shared} (h : SP (X.wish E) pins D f s') : SP X pins D f s' := by
  cases f with
  | next => obtain ⟨σ', H', I, q⟩ := h; exact ⟨σ', H', I.unwish, q⟩
  | brk => obtain ⟨σ', H', I, q⟩ := h; exact ⟨σ', H', I.unwish, q⟩
  | cont => obtain ⟨σ', H', I, q⟩ := h; exact ⟨σ', H', I.unwish, q⟩
  | ret u => obtain ⟨v, σ', H', I, r, q⟩ := h; exact ⟨v, σ', H', I.unwish, r, q⟩
theorem PSs.nox {st : List Stmt} {t : TS} (h : PSs X.nox st t) : PSs X st t := fun pins s σ H D I hw =>
  wpAny_mono (h pins s σ H D (I.wish _) hw) (fun _ _ q => q.unwish) fun _ _ z => False.elim z
end

/-! ### blocks and small statements -/
section
variable {X : Cx} {st : Stmt} {rest : List Stmt} {t u : TS} {e : Expr} {te : TE} {pos : Pos}
def tNext : TS := fun D σ H => D.nx σ H
def tSeq (t u : TS) : TS := fun D σ H => t { D with nx := u D } σ H
theorem pss_nil : PSs X [] tNext := fun _ _ σ H _ I h => wpAny_execs_nil ⟨σ, H, I, h⟩
theorem pss_cons (h1 : PS X st t) (h2 : PSs X rest u) : PSs X (st :: rest) (tSeq t u) := by
  intro pins s σ H D I h
  refine wpAny_execs_cons (thn (h1 pins s σ H { D with nx := u D } I h) fun f s1 q => ?_)
  cases f with
  | next =>
    obtain ⟨σ', H', I', q⟩ := q
    exact h2 pins s1 σ' H' D I' q
  | ret v => exact q
  | brk => exact q
  | cont => exact q
theorem pss_one (h1 : PS X st t) : PSs X [st] t := by
  intro pins s σ H D I h
  refine wpAny_execs_cons (thn (h1 pins s σ H D I h) fun f s1 q => ?_)
  cases f with
  | next => exact wpAny_execs_nil q
  | ret v => exact q
  | brk => exact q
  | cont => exact q
/-- in a def's body nothing is shown -/
theorem Inv.quiet {pins : List (Addr × Obj)} {σ : St} {H : Hp} {s : Shared} (I : Inv X pins σ H s) : interactive X.env = false := by simp [interactive, I.ok.kind]
/-- an expression whose value is dropped -/
def tDrop (te : TE) : TS := fun D σ H => te σ H fun _ H1 => D.nx σ H1
theorem ps_expr (he : PE X e te) (hs : swapsWith e none pos.line X.env = pure false := by rfl) : PS X (.Expr e pos) (tDrop te) := by
  intro pins s σ H D I h
  exact wpAny_Expr_any (thn (he pins s σ H _ I h) fun v s1 ⟨x, H1, I1, r1, q1⟩ => ⟨σ, H1, I1, q1⟩) I.quiet hs
def tRet (te : TE) : TS := fun D σ H => te σ H D.rt
theorem ps_ret (he : PE X e te) : PS X (.Return (some e) pos) (tRet te) := by
  intro pins s σ H D I h
  exact wpAny_Return_some (thn (he pins s σ H _ I h) fun v s1 ⟨x, H1, I1, r1, q1⟩ => ⟨x, σ, H1, I1, r1, q1⟩)
def tIfS (c : TT) (t u : TS) : TS := fun D σ H => c σ H fun b H1 => if b = true then t D σ H1 else u D σ H1
theorem ps_if {c : Expr} {a b : List Stmt} {tc : TT} (hc : PT X c tc) (ha : PSs X a t) (hb : PSs X b u) : PS X (.If c a b pos) (tIfS tc t u) := by
  intro pins s σ H D I h
  refine wpAny_If (thn (hc pins s σ H _ I h) fun d s1 ⟨H1, I1, q1⟩ => ?_)
  cases d with
  | true => exact ha pins s1 σ H1 D I1 q1
  | false => exact hb pins s1 σ H1 D I1 q1
end

/-! ### targets -/
abbrev TG := V → St → Hp → (St → Hp → Prop) → Prop
def PG (X : Cx) (target : Expr) (t : TG) : Prop :=
  ∀ (pins : List (Addr × Obj)) (s : Shared) (σ : St) (H : Hp) (v : V) (u : Value) (Q : St → Hp → Prop), Inv X pins σ H s → RelV v u → t v σ H Q →
    wpAny (model X.prog X.w) X.A (assign target X.env u) (fun _ s' => ∃ σ' H', Inv X pins σ' H' s' ∧ Q σ' H') X.xe s
/-- o[i] = v, by values -/
abbrev TSet := V → V → V → Hp → (Hp → Prop) → Prop
def PSet (X : Cx) (t : TSet) : Prop :=
  ∀ (pins : List (Addr × Obj)) (s : Shared) (σ : St) (H : Hp) (o i v : V) (ov iv u : Value) (Q : Hp → Prop), Inv X pins σ H s → RelV o ov → RelV i iv → RelV v u → t o i v H Q →
    wpAny (model X.prog X.w) X.A (setItem ov iv u) (fun _ s' => ∃ H', Inv X pins σ H' s' ∧ Q H') X.xe s
section
variable {X : Cx} {pos : Pos}
def gName (i : Nat) : TG := fun v σ H Q => Q (σ.set i (some v)) H
theorem pg_name {i : Nat} {x : Str} (hN : X.N.Nodup) (hi : X.N[i]? = some x) (hx : Loc X.env.scope x) (hf : X.fn x = true ∨ X.env.scope.names.lookup x = some .local := by first | exact .inl rfl | exact .inr rfl | assumption) : PG X (.Name x pos) (gName i) := by
  intro pins s σ H v u Q I r h
  exact wpAny_assign_Name (store_ok I hN hi hx r (fun s' I' => ⟨_, H, I', h⟩) hf)
/-- o[i] = .. -/
def gSub (to ti : TE) (t : TSet) : TG := fun v σ H Q => to σ H fun o H1 => ti σ H1 fun i H2 => t o i v H2 fun H3 => Q σ H3
theorem pg_sub {o i : Expr} {to ti : TE} {t : TSet} (ho : PE X o to) (hi : PE X i ti) (hs : PSet X t)
    (ha : ∀ v, assign (.Subscript o i pos) X.env v = (do
      let ov ← holding [v] (eval o X.env)
      let iv ← holding [v, ov] (eval i X.env)
      standAt pos
      holding [v, ov, iv] (setItem ov iv v)
      release [v, ov, iv] []) := by intro _; rfl) : PG X (.Subscript o i pos) (gSub to ti t) := by
  intro pins s σ H v u Q I r h
  rw [ha]
  refine wpAny_bind (wpAny_holding (thn (ho pins s σ H _ I h) fun ov s1 ⟨x, H1, I1, r1, q1⟩ => ?_))
  refine wpAny_bind (wpAny_holding (thn (hi pins s1 σ H1 _ I1 q1) fun iv s2 ⟨y, H2, I2, r2, q2⟩ => ?_))
  refine wpAny_bind (wpAny_standAt (wpAny_bind (wpAny_holding (thn (hs pins s2 σ H2 x y v ov iv u _ I2 r1 r2 r q2) fun _ s3 ⟨H3, I3, q3⟩ => ?_))))
  exact wpAny_release ⟨σ, H3, I3, q3⟩
/-- target = value -/
def tAsg (te : TE) (g : TG) : TS := fun D σ H => te σ H fun x H1 => g x σ H1 D.nx
theorem ps_asg {tg e : Expr} {te : TE} {g : TG} (he : PE X e te) (hg : PG X tg g) (hs : swapsWithSole [tg] e pos.line X.env = pure false := by rfl) (hw : swappedStores [tg] e X.env = pure none := by rfl)
    (h1 : (assignEach [tg] X.env).map (·.2) = [assign tg X.env] := by rfl) : PS X (.Assign [tg] e pos) (tAsg te g) := by
  intro pins s σ H D I h
  refine wpAny_Assign_stores (thn (he pins s σ H _ I h) fun v s1 ⟨x, H1, I1, r1, q1⟩ => ?_) hs hw
  rw [h1]
  exact thn (hg pins s1 σ H1 x v _ I1 r1 q1) fun _ s2 q => q
/-- name = value -/
theorem ps_set {i : Nat} {x : Str} {e : Expr} {te : TE} {pos' : Pos} (hN : X.N.Nodup) (hi : X.N[i]? = some x) (hx : Loc X.env.scope x) (he : PE X e te) (hs : swapsWith e (some (.Name x pos')) pos.line X.env = pure false := by rfl) (hf : X.fn x = true ∨ X.env.scope.names.lookup x = some .local := by first | exact .inl rfl | exact .inr rfl | assumption) :
    PS X (.Assign [.Name x pos'] e pos) (tAsg te (gName i)) := by
  intro pins s σ H D I h
  refine wpAny_Assign_Name (thn (he pins s σ H _ I h) fun v s1 ⟨y, H1, I1, r1, q1⟩ => ?_) hs
  exact store_ok I1 hN hi hx r1 (fun s2 I2 => ⟨_, H1, I2, q1⟩) hf
end

/-! ### while -/
section
variable {X : Cx} {pos : Pos}
/-- the invariant W with its measure -/
def tWhile (c : TT) (tb : TS) : TS := fun D σ H => ∃ W : Nat → St → Hp → Prop, (∃ m, W m σ H) ∧ ∀ m σ H, W m σ H →
  c σ H fun b H1 => if b = true then ∃ N : St → Hp → Prop, (∀ σ' H', N σ' H' → ∃ m', m' < m ∧ W m' σ' H') ∧ tb { D with nx := N, ct := N, bk := D.nx } σ H1 else D.nx σ H1
theorem ps_while {c : Expr} {body : List Stmt} {tc : TT} {tb : TS} (hp : PassesOwn (model X.prog X.w) X.A X.env X.xe) (hc : PT X c tc) (hb : PSs X body tb) : PS X (.While c body [] pos) (tWhile tc tb) := by
  intro pins s σ H D I h
  obtain ⟨W, ⟨m0, w0⟩, turn⟩ := h
  refine wpAny_While (codeAny_whileLoop (fun n s' => ∃ σ' H', Inv X pins σ' H' s' ∧ W n σ' H') ?_ m0 ⟨σ, H, I, w0⟩)
  rintro n s1 ⟨σ1, H1, I1, w1⟩
  refine wpAny_passesOwn hp (thn (hc pins s1 σ1 H1 _ I1 (turn n σ1 H1 w1)) fun b s2 ⟨H2, I2, q2⟩ => ?_)
  cases b with
  | true =>
    obtain ⟨N, hN, q2⟩ := q2
    rw [if_pos rfl]
    refine wpAny_passesOwn hp (thn (hb pins s2 σ1 H2 _ I2 q2) fun f s3 q3 => ?_)
    cases f with
    | next =>
      obtain ⟨σ3, H3, I3, n3⟩ := q3
      obtain ⟨m', hm, w3⟩ := hN σ3 H3 n3
      exact ⟨m', hm, σ3, H3, I3, w3⟩
    | cont =>
      obtain ⟨σ3, H3, I3, n3⟩ := q3
      obtain ⟨m', hm, w3⟩ := hN σ3 H3 n3
      exact ⟨m', hm, σ3, H3, I3, w3⟩
    | brk => exact q3
    | ret v => exact q3
  | false =>
    rw [if_neg Bool.false_ne_true]
    exact wpAny_execs_nil ⟨σ1, H2, I2, q2⟩
end

/-! ### what a loop or a comprehension walks -/
/-- at turn i: it yields x (the heap may grow), or it stops -/
structure It where
  go : Nat → Hp → Prop
  yld : Nat → Hp → V → Hp → Prop
  stop : Nat → Hp → Prop
/-- the iterator's own objects may turn: they are not the frame's, not pinned, younger than the entry (or a comprehension's own) -/
def FpOk (X : Cx) (pins : List (Addr × Obj)) (H : Hp) (b : Addr) : Prop :=
  H b = none ∧ b ≠ X.env.locals ∧ b ∉ X.fs ∧ (b ∈ X.ex ∨ X.s_0.heap.objs.size ≤ b) ∧ (∀ x c, X.env.cells.lookup x = some c → c ≠ b) ∧ ∀ p ∈ X.pn ++ pins, p.1 ≠ b
theorem Inv.fpOk {X : Cx} {pins : List (Addr × Obj)} {σ : St} {H H' : Hp} {s : Shared} {b : Addr} (I : Inv X pins σ H s) (hb : s.heap.objs.size ≤ b) (hn : H' b = none) : FpOk X pins H' b := by
  refine ⟨hn, Nat.ne_of_gt (Nat.lt_of_lt_of_le I.lt hb), I.nofs hb, .inr (Nat.le_trans I.sz hb), fun x c e z => ?_, fun p hp z => ?_⟩
  · obtain ⟨v, q⟩ := I.cell x c e
    exact absurd (Nat.lt_of_lt_of_le q.lt (by rw [z]; exact hb)) (Nat.lt_irrefl _)
  · exact absurd (Nat.lt_of_lt_of_le (Heap.lt_size (I.pin p hp).1) (by rw [z]; exact hb)) (Nat.lt_irrefl _)
structure Turn (P : Program) (w : World) (K : PySem.W.Frag) (tg : Expr) (J : It) (fp : List Addr) (it : Addr) (tn : Nat → Heap → Prop) : Prop where
  mem : it ∈ fp
  obj : ∀ i h, tn i h → ∀ b ∈ fp, ∃ o, h.get? b = some o ∧ ∀ v, o.data ≠ .cell v
  keep : ∀ i h h', tn i h → (∀ b ∈ fp, ∀ o, h.get? b = some o → h'.get? b = some o) → tn i h'
  item : ∀ (X : Cx), X.prog = P → X.w = w → X.K = K → X.calm = true → ∀ (i : Nat) (pins : List (Addr × Obj)) (s : Shared) (σ : St) (H : Hp) (E : Value → Shared → Prop), Inv X pins σ H s → (∀ b ∈ fp, FpOk X pins H b) → tn i s.heap → J.go i H →
    wpAny (model P w) X.A (pyNext (.ref it)) (fun r s1 => ∃ u, r = some u ∧
      wpAny (model P w) X.A (letOwnedTupleGo tg (.ref it) u) (fun _ s2 => ∃ x H', Inv X pins σ H' s2 ∧ RelV x u ∧ J.yld i H x H' ∧ tn (i + 1) s2.heap ∧ ∀ b ∈ fp, H' b = none) E s1) E s
  done : ∀ (X : Cx), X.prog = P → X.w = w → X.K = K → X.calm = true → ∀ (i : Nat) (pins : List (Addr × Obj)) (s : Shared) (σ : St) (H : Hp) (E : Value → Shared → Prop), Inv X pins σ H s → (∀ b ∈ fp, FpOk X pins H b) → tn i s.heap → J.stop i H →
    wpAny (model P w) X.A (pyNext (.ref it)) (fun r s1 => r = none ∧ Inv X pins σ H s1) E s
  self : ∀ (A : Around) (i : Nat) (s : Shared) (Q : Value → Shared → Prop) (E : Value → Shared → Prop), tn i s.heap → Q (.ref it) s → wpAny (model P w) A (pyIter (.ref it)) Q E s
abbrev TI := St → Hp → (It → Hp → Prop) → Prop
/-- an iterator has come -/
def PIE (X : Cx) (pins : List (Addr × Obj)) (σ : St) (tg : Expr) (R : It → Hp → Prop) (itv : Value) (s2 : Shared) : Prop :=
  ∃ (it : Addr) (fp : List Addr) (tn : Nat → Heap → Prop) (J : It) (H' : Hp), itv = .ref it ∧ Inv X pins σ H' s2 ∧ Turn X.prog X.w X.K tg J fp it tn ∧ tn 0 s2.heap ∧ (∀ b ∈ fp, FpOk X pins H' b) ∧ R J H'
def PI (X : Cx) (tg iter : Expr) (wi : TI) : Prop :=
  ∀ (pins : List (Addr × Obj)) (s : Shared) (σ : St) (H : Hp) (R : It → Hp → Prop), Inv X pins σ H s → wi σ H R →
    wpAny (model X.prog X.w) X.A (eval iter X.env) (fun v s1 => wpAny (model X.prog X.w) X.A (pyIter v) (PIE X pins σ tg R) X.xe s1) X.xe s

/-- the step ahead of the store is nothing for an iterator that keeps no tuple -/
theorem go_of {M : Model} {A : Around} {E : Value → Shared → Prop} {s : Shared} {tg : Expr} {it : Addr} {u : Value} {o : Obj} {n : String} {vs : Array Value} {Q : Unit → Shared → Prop} (ho : s.heap.get? it = some o) (hc : o.cls = .type n) (hd : o.data = .fields vs)
    (hn : ["enumerate", "zip", "dict_itemiterator", "dict_reverseitemiterator", "odict_iterator", "itertools.zip_longest", "itertools.pairwise"].contains n = false) (hQ : Q () s) : wpAny M A (letOwnedTupleGo tg (.ref it) u) Q E s := by
  unfold letOwnedTupleGo
  cases tg <;> first
    | exact wpAny_pure hQ
    | (cases u <;> first
        | exact wpAny_pure hQ
        | (refine wpAny_bind (wpAny_load ho ?_)
           rw [hc, hd]
           show wpAny M A (if (["enumerate", "zip", "dict_itemiterator", "dict_reverseitemiterator", "odict_iterator", "itertools.zip_longest", "itertools.pairwise"].contains n && vs[0]? == some (rawInt _)) = true then _ else _) Q E s
           rw [if_neg (by intro h; rw [hn, Bool.false_and] at h; cases h)]
           exact wpAny_pure hQ))

/-- the list at a, as it stands at each turn (a loop may append to it) -/
def Itl (K : PySem.W.Frag) (a : Addr) : It :=
  ⟨fun i H => ∃ xs x, SqL K H a xs ∧ xs[i]? = some x, fun i H x H' => H' = H ∧ ∀ xs, SqL K H a xs → xs[i]? = some x, fun i H => ∃ xs, SqL K H a xs ∧ xs.length ≤ i⟩
/-- lo, lo + 1, .. (n of them) -/
def Itr (lo : Int) (n : Nat) : It := ⟨fun i _ => i < n, fun i H x H' => H' = H ∧ x = .int (lo + i), fun i _ => n ≤ i⟩
theorem turn_list {P : Program} {w : World} {K : PySem.W.Frag} {tg : Expr} (a it : Addr) : Turn P w K tg (Itl K a) [it] it (fun i h => h.IsListIter it a i) where
  mem := by simp
  obj := fun i h st b hb => by
    have e : b = it := by simpa using hb
    subst e
    obtain ⟨o, e, c, d⟩ := st
    exact ⟨o, e, fun v z => by rw [d] at z; cases z⟩
  keep := fun i h h' st k => st.at fun o e => k it (by simp) o e
  item := by
    intro X hP hw hK hc i pins s σ H E I hf st hg
    subst hP hw hK
    obtain ⟨xs, x, hq, hx⟩ := hg
    obtain ⟨its, rv, p, hz⟩ := I.list hq
    obtain ⟨u, hu, ru⟩ := rv.get hx
    obtain ⟨f0, f1, f2, f3, f4, f5⟩ := hf it (by simp)
    refine wpAny_pyNext_list_item st p.isList (x := u) (by simpa using hu) fun h' st' sb => ?_
    have I1 : Inv X pins σ H { s with heap := h' } := I.turned (t' := s.toks) (fun b o hb e => (sb.2 b hb).trans e) f0 f1 f3 f4 f5
    obtain ⟨o, e, c, d⟩ := id st'
    exact ⟨u, rfl, go_of (s := { s with heap := h' }) e c d (by decide) ⟨x, H, I1, ru, ⟨rfl, fun ys hy => by rw [I.list_inj hy hq]; exact hx⟩, st', fun b hb => (hf b hb).1⟩⟩
  done := by
    intro X hP hw hK hc i pins s σ H E I hf st hg
    subst hP hw hK
    obtain ⟨xs, hq, hx⟩ := hg
    obtain ⟨its, rv, p, hz⟩ := I.list hq
    obtain ⟨f0, f1, f2, f3, f4, f5⟩ := hf it (by simp)
    have hl := rv.length
    exact wpAny_pyNext_list_end (I.ok.hd hc) st p.isList (by simp; omega) fun h' eb => ⟨rfl, I.turned (t' := s.toks) (fun b o hb e => eb b o hb e) f0 f1 f3 f4 f5⟩
  self := fun _ _ _ _ _ st h => wpAny_pyIter_listiter st h
theorem turn_range {P : Program} {w : World} {K : PySem.W.Frag} {tg : Expr} (it : Addr) (lo : Int) (n : Nat) : Turn P w K tg (Itr lo n) [it] it (fun i h => IsRangeIter h it (lo + (i : Nat) * 1) ((n : Int) - (i : Nat)) 1) where
  mem := by simp
  obj := fun i h st b hb => by
    have e : b = it := by simpa using hb
    subst e
    exact ⟨_, st, fun v z => by
      have z' : Data.fields _ = Data.cell v := z
      cases z'⟩
  keep := fun i h h' st k => k it (by simp) _ st
  item := by
    intro X hP hw hK hc i pins s σ H E I hf st hg
    subst hP hw hK
    obtain ⟨f0, f1, f2, f3, f4, f5⟩ := hf it (by simp)
    have W := Walks.range (prog := X.prog) (w := X.w) (I.ok.hd hc) it lo 1 n
    refine W.item i s _ _ hg st fun v h' tk hv st' kk => ?_
    obtain ⟨t, rfl⟩ := hv
    have I1 : Inv X pins σ H { s with heap := h', toks := tk } := I.turned (fun b o hb e => kk b o (by simpa using hb) e) f0 f1 f3 f4 f5
    refine ⟨_, rfl, go_of (s := { s with heap := h', toks := tk }) (n := "range_iterator") st' rfl rfl (by decide) ⟨.int (lo + i), H, I1, ⟨t, ?_⟩, ⟨rfl, rfl⟩, st', fun b hb => (hf b hb).1⟩⟩
    rw [Int.mul_one]
  done := by
    intro X hP hw hK hc i pins s σ H E I hf st hg
    subst hP hw hK
    obtain ⟨f0, f1, f2, f3, f4, f5⟩ := hf it (by simp)
    exact wpAny_pyNext_range_end (I.ok.hd hc) st (by have : n ≤ i := hg; omega) fun h' eb => ⟨rfl, I.turned (t' := s.toks) (fun b o hb e => eb b o hb e) f0 f1 f3 f4 f5⟩
  self := fun _ _ _ _ _ st h => wpAny_pyIter_rangeiter st h
end L2

namespace L2
open PySem PySem.Spec PyProof.Rows
section
variable {X : Cx} {tg : Expr}
def iList (K : PySem.W.Frag) (tl : TE) : TI := fun σ H R => tl σ H fun x H1 => ∃ a, x = .ref a ∧ (∃ xs, SqL K H1 a xs) ∧ R (Itl K a) H1
theorem pi_list {l : Expr} {tl : TE} (hl : PE X l tl) : PI X tg l (iList X.K tl) := by
  intro pins s σ H R I h
  refine thn (hl pins s σ H _ I h) fun v s1 ⟨x, H1, I1, r1, q1⟩ => ?_
  obtain ⟨a, e, ⟨xs, hq⟩, q⟩ := q1
  subst e
  cases r1
  obtain ⟨its, rv, p, hz⟩ := I1.list hq
  refine wpAny_pyIter_list p.isList ?_
  refine ⟨s1.heap.objs.size, [s1.heap.objs.size], _, _, H1, rfl, I1.kept (t' := s1.toks) fun b o e => Heap.get?_push_of_some _ e, turn_list a _, ⟨_, Heap.get?_push_size _ rfl, rfl, rfl⟩, fun b hb => ?_, q⟩
  have e : b = s1.heap.objs.size := by simpa using hb
  subst e
  exact I1.fpOk (Nat.le_refl _) (I1.hok.fresh (Nat.le_refl _))
/-- a range object just made, walked -/
theorem range_it {pins : List (Addr × Obj)} {σ : St} {H : Hp} {s : Shared} {R : It → Hp → Prop} {E : Value → Shared → Prop} {lo hi : Int} {t u v : Tok} {tk : Nat} (I : Inv X pins σ H s) (h1 : -(2 ^ 62) ≤ lo) (h2 : lo < 2 ^ 62) (h3 : -(2 ^ 62) ≤ hi) (h4 : hi < 2 ^ 62)
    (q : R (Itr lo (hi - lo).toNat) H) : wpAny (model X.prog X.w) X.A (pyIter (.ref s.heap.objs.size)) (PIE X pins σ tg R) E { s with heap := s.heap.push { cls := .type "range", data := .fields #[.int lo t, .int hi u, .int 1 v] }, toks := tk } := by
  refine wpAny_pyIter_range (IsRange.new ..) (small_one h1 h2 h3 h4) ?_
  have I1 : Inv X pins σ H { s with heap := s.heap.push { cls := .type "range", data := .fields #[.int lo t, .int hi u, .int 1 v] }, toks := tk } := I.kept fun b o e => Heap.get?_push_of_some _ e
  refine ⟨(s.heap.push { cls := .type "range", data := .fields #[.int lo t, .int hi u, .int 1 v] }).objs.size, [(s.heap.push { cls := .type "range", data := .fields #[.int lo t, .int hi u, .int 1 v] }).objs.size], _, _, H, rfl,
    I1.kept (t' := tk) fun b o e => Heap.get?_push_of_some _ e, turn_range _ lo (hi - lo).toNat, ?_, fun b hb => ?_, q⟩
  · have e1 : lo + ((0 : Nat) : Int) * 1 = lo := by simp
    have e2 : (((hi - lo).toNat : Nat) : Int) - ((0 : Nat) : Int) = Builtin.Range.rangeSize lo hi 1 := by rw [rangeSize_one]; split <;> omega
    show IsRangeIter _ _ (lo + ((0 : Nat) : Int) * 1) ((((hi - lo).toNat : Nat) : Int) - ((0 : Nat) : Int)) 1
    rw [e1, e2]
    exact Heap.get?_push_size _ rfl
  · have e : b = (s.heap.push { cls := .type "range", data := .fields #[.int lo t, .int hi u, .int 1 v] }).objs.size := by simpa using hb
    subst e
    exact I1.fpOk (Nat.le_refl _) (I1.hok.fresh (Nat.le_refl _))
def iRng1 (ta : TA) : TI := fun σ H R => ta σ H fun vs H1 => ∃ j : Int, vs = [.int j] ∧ -(2 ^ 62) ≤ j ∧ j < 2 ^ 62 ∧ R (Itr 0 j.toNat) H1
theorem pi_range1 {a : Expr} {ta : TA} {p pos : Pos} (hg : Gl X "range") (hm : X.mg "range" = none) (ha : PA X [a] ta) (hs : starEach [a] X.env = [(false, eval a X.env)] := by rfl) : PI X tg (.Call (.Name "range" p) [a] [] pos) (iRng1 ta) := by
  intro pins s σ H R I h
  refine Call_ (ld_blt I hg hm boot_range (PyProof.Rows.callWith_type1 (thn (ha pos pins s σ H _ I h) fun us s1 ⟨vs, H1, I1, r1, q1⟩ => ?_) hs rfl))
  obtain ⟨j, e, q1, q2, q⟩ := q1
  subst e
  cases r1 with
  | cons r rr =>
    cases rr
    obtain ⟨t, rfl⟩ := r
    exact call_range_1 (range_it I1 (by omega) (by omega) q1 q2 (by simpa using q))
/-! ### for -/
/-- W: the invariant by the turn and a measure; N: what the body is to reach -/
def tFor (wi : TI) (g : TG) (tb : TS) : TS := fun D σ H => wi σ H fun J H1 => ∃ W : Nat → Nat → St → Hp → Prop, (∃ m, W 0 m σ H1) ∧ ∀ i m σ H, W i m σ H →
  (J.stop i H ∧ D.nx σ H) ∨ (J.go i H ∧ ∃ N : St → Hp → Prop, (∀ σ' H', N σ' H' → ∃ m', m' < m ∧ W (i + 1) m' σ' H') ∧ ∀ x H', J.yld i H x H' → g x σ H' fun σ2 H2 => tb { D with nx := N, ct := N, bk := D.nx } σ2 H2)
/-- the records at fp as they stand -/
def pinsAt (fp : List Addr) (h : Heap) : List (Addr × Obj) := fp.filterMap fun b => (h.get? b).map fun o => (b, o)
theorem mem_pinsAt {fp : List Addr} {h : Heap} {b : Addr} {o : Obj} (hb : b ∈ fp) (e : h.get? b = some o) : (b, o) ∈ pinsAt fp h := List.mem_filterMap.mpr ⟨b, hb, by rw [e]; rfl⟩
theorem of_pinsAt {fp : List Addr} {h : Heap} {p : Addr × Obj} (hp : p ∈ pinsAt fp h) : p.1 ∈ fp ∧ h.get? p.1 = some p.2 := by
  obtain ⟨b, hb, e⟩ := List.mem_filterMap.mp hp
  cases q : h.get? b with
  | none => rw [q] at e; cases e
  | some o =>
    rw [q] at e
    have e' : (b, o) = p := Option.some.inj e
    subst e'
    exact ⟨hb, q⟩
theorem Inv.pinned {pins : List (Addr × Obj)} {σ : St} {H : Hp} {s : Shared} {fp : List Addr} (I : Inv X pins σ H s) (hf : ∀ b ∈ fp, FpOk X pins H b) (ho : ∀ b ∈ fp, ∃ o, s.heap.get? b = some o ∧ ∀ v, o.data ≠ .cell v) : Inv X (pins ++ pinsAt fp s.heap) σ H s :=
  I.pins_of fun p hp => (List.mem_append.mp hp).elim (fun z => I.pin p (List.mem_append_right _ z)) fun z => by
    obtain ⟨hb, e⟩ := of_pinsAt z
    obtain ⟨f0, f1, f2, _⟩ := hf p.1 hb
    obtain ⟨o, e', d⟩ := ho p.1 hb
    rw [e] at e'; cases e'
    exact ⟨e, f0, f1, f2, d⟩
theorem Inv.unpinned {pins pl : List (Addr × Obj)} {σ : St} {H : Hp} {s : Shared} (I : Inv X (pins ++ pl) σ H s) : Inv X pins σ H s := I.pins_of fun p hp => I.pin p (List.mem_append_right _ (List.mem_append_left _ hp))
theorem ps_for {iter : Expr} {body : List Stmt} {wi : TI} {g : TG} {tb : TS} {pos : Pos} (hp : PassesOwn (model X.prog X.w) X.A X.env X.xe) (hc : X.calm = true) (hi : PI X tg iter wi) (hg : PG X tg g) (hb : PSs X body tb)
    (hs : ∀ x, foldedSetIterable iter X.env x = pure x := by intro _; rfl) : PS X (.For tg iter body [] pos) (tFor wi g tb) := by
  intro pins s σ H D I h
  refine wpAny_For (thn (hi pins s σ H _ I h) fun v s1 h1 => thn h1 fun itv s2 h2 => ?_) hs
  obtain ⟨it, fp, tn, J, H2, e, I2, T, st2, f2, W, ⟨m0, w0⟩, turn⟩ := h2
  subst e
  -- what stays true of the iterator's objects through the loop
  have stat : ∀ {H' : Hp}, (∀ b ∈ fp, H' b = none) → ∀ b ∈ fp, FpOk X pins H' b := fun hn b hb => ⟨hn b hb, (f2 b hb).2⟩
  refine codeAny_forLoop_any (fun n s' => ∃ i σ' H', Inv X pins σ' H' s' ∧ tn i s'.heap ∧ (∀ b ∈ fp, H' b = none) ∧ W i n σ' H') ?_ m0 ⟨0, σ, H2, I2, st2, fun b hb => (f2 b hb).1, w0⟩
  rintro n s3 ⟨i, σ3, H3, I3, st3, fr3, w3⟩
  rcases turn i n σ3 H3 w3 with ⟨stop, qn⟩ | ⟨go, N, hN, step⟩
  · refine wpAny_passesOwn hp (thn (T.done X rfl rfl rfl hc i pins s3 σ3 H3 X.xe I3 (stat fr3) st3 stop) fun r s4 ⟨hr, I4⟩ => ?_)
    subst hr
    exact wpAny_execs_nil ⟨σ3, H3, I4, qn⟩
  · refine wpAny_passesOwn hp (thn (T.item X rfl rfl rfl hc i pins s3 σ3 H3 X.xe I3 (stat fr3) st3 go) fun r s4 ⟨u, hr, h4⟩ => ?_)
    subst hr
    refine wpAny_passesOwn hp (thn h4 fun _ s5 ⟨x, H5, I5, r5, y5, st5, fr5⟩ => ?_)
    have I5' := I5.pinned (stat fr5) (T.obj _ _ st5)
    refine wpAny_passesOwn hp (thn (hg _ s5 σ3 H5 x u _ I5' r5 (step x H5 y5)) fun _ s6 ⟨σ6, H6, I6, q6⟩ => ?_)
    refine wpAny_passesOwn hp (thn (hb _ s6 σ6 H6 _ I6 q6) fun f s7 q7 => ?_)
    have again : ∀ {σ7 : St} {H7 : Hp}, Inv X (pins ++ pinsAt fp s5.heap) σ7 H7 s7 → N σ7 H7 → ∃ m, m < n ∧ ∃ i σ' H', Inv X pins σ' H' s7 ∧ tn i s7.heap ∧ (∀ b ∈ fp, H' b = none) ∧ W i m σ' H' := fun {σ7 H7} I7 n7 => by
      obtain ⟨m', hm, w7⟩ := hN σ7 H7 n7
      refine ⟨m', hm, i + 1, σ7, H7, I7.unpinned, T.keep _ _ _ st5 fun b hb o e => (I7.pin (b, o) (List.mem_append_right _ (List.mem_append_right _ (mem_pinsAt hb e)))).1, fun b hb => ?_, w7⟩
      obtain ⟨o, e, d⟩ := T.obj _ _ st5 b hb
      exact (I7.pin (b, o) (List.mem_append_right _ (List.mem_append_right _ (mem_pinsAt hb e)))).2.1
    cases f with
    | next => obtain ⟨σ7, H7, I7, n7⟩ := q7; exact again I7 n7
    | cont => obtain ⟨σ7, H7, I7, n7⟩ := q7; exact again I7 n7
    | brk => obtain ⟨σ7, H7, I7, q7⟩ := q7; exact ⟨σ7, H7, I7.unpinned, q7⟩
    | ret v => obtain ⟨x7, σ7, H7, I7, r7, q7⟩ := q7; exact ⟨x7, σ7, H7, I7.unpinned, r7, q7⟩
end

/-! ### the forms one uses -/
/-- over a list that the body leaves as it is -/
theorem for_list {K : PySem.W.Frag} {a : Addr} {xs : List V} {g : TG} {tb : TS} {D : Ends} {σ : St} {H : Hp} (Pv : Nat → St → Hp → Prop) (h0 : Pv 0 σ H) (hl : ∀ i σ H, i ≤ xs.length → Pv i σ H → SqL K H a xs)
    (hs : ∀ i x σ H, xs[i]? = some x → Pv i σ H → g x σ H fun σ2 H2 => tb { D with nx := Pv (i + 1), ct := Pv (i + 1), bk := D.nx } σ2 H2) (hd : ∀ σ H, Pv xs.length σ H → D.nx σ H) :
    ∃ W : Nat → Nat → St → Hp → Prop, (∃ m, W 0 m σ H) ∧ ∀ i m σ H, W i m σ H →
      ((Itl K a).stop i H ∧ D.nx σ H) ∨ ((Itl K a).go i H ∧ ∃ N : St → Hp → Prop, (∀ σ' H', N σ' H' → ∃ m', m' < m ∧ W (i + 1) m' σ' H') ∧ ∀ x H', (Itl K a).yld i H x H' → g x σ H' fun σ2 H2 => tb { D with nx := N, ct := N, bk := D.nx } σ2 H2) := by
  refine ⟨fun i m σ H => m = xs.length - i ∧ i ≤ xs.length ∧ Pv i σ H, ⟨xs.length, by simp, Nat.zero_le _, h0⟩, ?_⟩
  rintro i m σ H ⟨rfl, hi, p⟩
  have q := hl i σ H hi p
  by_cases hlt : i < xs.length
  · refine .inr ⟨⟨xs, xs[i], q, by simp [hlt]⟩, Pv (i + 1), fun σ' H' p' => ⟨xs.length - (i + 1), by omega, rfl, hlt, p'⟩, fun x H' y => ?_⟩
    obtain ⟨e, y⟩ := y
    subst e
    exact hs i x σ _ (y xs q) p
  · have e : i = xs.length := by omega
    subst e
    exact .inl ⟨⟨xs, q, Nat.le_refl _⟩, hd σ H p⟩
theorem for_range {lo : Int} {n : Nat} {g : TG} {tb : TS} {D : Ends} {σ : St} {H : Hp} (Pv : Nat → St → Hp → Prop) (h0 : Pv 0 σ H)
    (hs : ∀ i σ H, i < n → Pv i σ H → g (.int (lo + i)) σ H fun σ2 H2 => tb { D with nx := Pv (i + 1), ct := Pv (i + 1), bk := D.nx } σ2 H2) (hd : ∀ σ H, Pv n σ H → D.nx σ H) :
    ∃ W : Nat → Nat → St → Hp → Prop, (∃ m, W 0 m σ H) ∧ ∀ i m σ H, W i m σ H →
      ((Itr lo n).stop i H ∧ D.nx σ H) ∨ ((Itr lo n).go i H ∧ ∃ N : St → Hp → Prop, (∀ σ' H', N σ' H' → ∃ m', m' < m ∧ W (i + 1) m' σ' H') ∧ ∀ x H', (Itr lo n).yld i H x H' → g x σ H' fun σ2 H2 => tb { D with nx := N, ct := N, bk := D.nx } σ2 H2) := by
  refine ⟨fun i m σ H => m = n - i ∧ i ≤ n ∧ Pv i σ H, ⟨n, by simp, Nat.zero_le _, h0⟩, ?_⟩
  rintro i m σ H ⟨rfl, hi, p⟩
  by_cases hlt : i < n
  · refine .inr ⟨hlt, Pv (i + 1), fun σ' H' p' => ⟨n - (i + 1), by omega, rfl, hlt, p'⟩, fun x H' y => ?_⟩
    obtain ⟨e, y⟩ := y
    subst e y
    exact hs i σ _ hlt p
  · have e : i = n := by omega
    subst e
    exact .inl ⟨Nat.le_refl _, hd σ H p⟩
end L2

namespace L2
open PySem PySem.Spec PyProof.Rows

abbrev R2 := V → V → Hp → VK → Prop
/-- a two-place operation on values: f is binaryOp op, inplaceOp op or compareOp op -/
def OpR (X : Cx) (f : Value → Value → Sem Value) (r : R2) : Prop :=
  ∀ (pins : List (Addr × Obj)) (s : Shared) (σ : St) (H : Hp) (x y : V) (v u : Value) (Q : VK), Inv X pins σ H s → RelV x v → RelV y u → r x y H Q →
    wpAny (model X.prog X.w) X.A (f v u) (EP X pins σ Q) X.xe s
/-- a one-place operation -/
def UnR (X : Cx) (f : Value → Sem Value) (r : V → Hp → VK → Prop) : Prop :=
  ∀ (pins : List (Addr × Obj)) (s : Shared) (σ : St) (H : Hp) (x : V) (v : Value) (Q : VK), Inv X pins σ H s → RelV x v → r x H Q →
    wpAny (model X.prog X.w) X.A (f v) (EP X pins σ Q) X.xe s
/-- a call of a value that is known (a builtin, a type) with values -/
def CallR (X : Cx) (f : Value) (r : List V → Hp → VK → Prop) : Prop :=
  ∀ (pins : List (Addr × Obj)) (s : Shared) (σ : St) (H : Hp) (xs : List V) (us : List Value) (Q : VK), Inv X pins σ H s → Vals xs us → r xs H Q →
    wpAny (model X.prog X.w) X.A (call f us) (EP X pins σ Q) X.xe s
/-- a value's truth -/
def TruR (X : Cx) (r : V → Hp → (Bool → Hp → Prop) → Prop) : Prop :=
  ∀ (pins : List (Addr × Obj)) (s : Shared) (σ : St) (H : Hp) (x : V) (v : Value) (Q : Bool → Hp → Prop), Inv X pins σ H s → RelV x v → r x H Q →
    wpAny (model X.prog X.w) X.A (truthy v) (TP X pins σ Q) X.xe s

def tOp (r : R2) (ta tb : TE) : TE := fun σ H Q => ta σ H fun x H1 => tb σ H1 fun y H2 => r x y H2 Q
def tUn (r : V → Hp → VK → Prop) (ta : TE) : TE := fun σ H Q => ta σ H fun x H1 => r x H1 Q
def rI0 (g : Int → Int → V) : R2 := fun x y H Q => ∃ i j, x = .int i ∧ y = .int j ∧ Q (g i j) H
def rU (g : Int → V) : V → Hp → VK → Prop := fun x H Q => ∃ i, x = .int i ∧ Q (g i) H

section
variable {X : Cx} {a b c : Expr} {ta tb tc : TE} {pos : Pos}

theorem binT (ha : PE X a ta) (hb : PE X b tb) {pins : List (Addr × Obj)} {s : Shared} {σ : St} {H : Hp} {R : V → V → Hp → Prop} (I : Inv X pins σ H s)
    (h : ta σ H fun x H1 => tb σ H1 fun y H2 => R x y H2) {Q : Value → Shared → Prop} {f : Value → Value → Sem Value}
    (hf : ∀ v u s2 x y H2, Inv X pins σ H2 s2 → RelV x v → RelV y u → R x y H2 → wpAny (model X.prog X.w) X.A (f v u) Q X.xe s2) :
    wpAny (model X.prog X.w) X.A (eval a X.env) (fun v s₁ => wpAny (model X.prog X.w) X.A (eval b X.env) (fun u s₂ => wpAny (model X.prog X.w) X.A (f v u) Q X.xe s₂) X.xe s₁) X.xe s := by
  refine thn (ha pins s σ H _ I h) fun v s1 ⟨x, H1, I1, r1, q1⟩ => ?_
  refine thn (hb pins s1 σ H1 _ I1 q1) fun u s2 ⟨y, H2, I2, r2, q2⟩ => ?_
  exact hf v u s2 x y H2 I2 r1 r2 q2

theorem pe_op {op : Operator} {r : R2} (ho : OpR X (binaryOp op) r) (ha : PE X a ta) (hb : PE X b tb) : PE X (.BinOp a op b pos) (tOp r ta tb) := by
  intro pins s σ H Q I h
  exact wpAny_BinOp (binT ha hb I h fun v u s2 x y H2 I2 rx ry q => ho pins s2 σ H2 x y v u Q I2 rx ry q)
theorem pe_un {op : UnaryOp} {r : V → Hp → VK → Prop} (ho : UnR X (unaryOp op) r) (ha : PE X a ta) : PE X (.UnaryOp op a pos) (tUn r ta) := by
  intro pins s σ H Q I h
  exact UnaryOp_ (thn (ha pins s σ H _ I h) fun v s1 ⟨x, H1, I1, r1, q1⟩ => ho pins s1 σ H1 x v Q I1 r1 q1)
/-! ### ints -/
theorem opI0 {f : Value → Value → Sem Value} {g : Int → Int → Int}
    (rule : ∀ (i j : Int) (t u : Tok) (s : Shared) (Q : Value → Shared → Prop) (E : Value → Shared → Prop), Q (.int (g i j) s.toks) { s with toks := s.toks + 1 } → wpAny (model X.prog X.w) X.A (f (.int i t) (.int j u)) Q E s) :
    OpR X f (rI0 fun i j => .int (g i j)) := by
  intro pins s σ H x y v u Q I rx ry h
  obtain ⟨i, j, rfl, rfl, q⟩ := h
  obtain ⟨t, rfl⟩ := rx
  obtain ⟨t', rfl⟩ := ry
  exact rule i j t t' s _ _ ⟨.int (g i j), H, I.tok _, ⟨_, rfl⟩, q⟩
theorem opB0 {f : Value → Value → Sem Value} {g : Int → Int → Bool}
    (rule : ∀ (i j : Int) (t u : Tok) (s : Shared) (Q : Value → Shared → Prop) (E : Value → Shared → Prop), Q (.bool (g i j)) s → wpAny (model X.prog X.w) X.A (f (.int i t) (.int j u)) Q E s) :
    OpR X f (rI0 fun i j => .bl (g i j)) := by
  intro pins s σ H x y v u Q I rx ry h
  obtain ⟨i, j, rfl, rfl, q⟩ := h
  obtain ⟨t, rfl⟩ := rx
  obtain ⟨t', rfl⟩ := ry
  exact rule i j t t' s _ _ ⟨.bl (g i j), H, I, rfl, q⟩

theorem op_add : OpR X (binaryOp .Add) (rI0 fun i j => .int (i + j)) := opI0 fun _ _ _ _ _ _ _ q => add_int q
theorem op_sub : OpR X (binaryOp .Sub) (rI0 fun i j => .int (i - j)) := opI0 fun _ _ _ _ _ _ _ q => sub_int q
theorem op_and : OpR X (binaryOp .BitAnd) (rI0 fun i j => .int (Builtin.bitAnd i j)) := opI0 fun _ _ _ _ _ _ _ q => and_int q
theorem op_or : OpR X (binaryOp .BitOr) (rI0 fun i j => .int (Builtin.bitOr i j)) := opI0 fun _ _ _ _ _ _ _ q => or_int q
theorem unI {f : Value → Sem Value} {g : Int → Int}
    (rule : ∀ (i : Int) (t : Tok) (s : Shared) (Q : Value → Shared → Prop) (E : Value → Shared → Prop), Q (.int (g i) s.toks) { s with toks := s.toks + 1 } → wpAny (model X.prog X.w) X.A (f (.int i t)) Q E s) :
    UnR X f (rU fun i => .int (g i)) := by
  intro pins s σ H x v Q I rx h
  obtain ⟨i, rfl, q⟩ := h
  obtain ⟨t, rfl⟩ := rx
  exact rule i t s _ _ ⟨.int (g i), H, I.tok _, ⟨_, rfl⟩, q⟩
theorem un_inv : UnR X (unaryOp .Invert) (rU fun i => .int (Builtin.bitNot i)) := unI fun _ _ _ _ _ q => invert_int q

/-! ### bools among ints: n += (a < b) -/
end

/-! ### comparisons -/
/-- the scalars that == tells apart as data does -/
def scal : V → V → Bool
  | .non, .non => true | .non, .int _ => true | .int _, .non => true | .non, .bl _ => true | .bl _, .non => true | .non, .str _ => true | .str _, .non => true
  | .int _, .int _ => true | .bl _, .bl _ => true | .str _, .str _ => true | .byt _, .byt _ => true
  | .int _, .str _ => true | .str _, .int _ => true | .bl _, .str _ => true | .str _, .bl _ => true
  | _, _ => false
def rEq : R2 := fun x y H Q => scal x y = true ∧ Q (.bl (decide (x = y))) H
def rNe : R2 := fun x y H Q => scal x y = true ∧ Q (.bl (!decide (x = y))) H

theorem dec_int {i j : Int} : decide (V.int i = V.int j) = (i == j) := by
  rw [Bool.eq_iff_iff]
  simp
theorem dec_bl {i j : Bool} : decide (V.bl i = V.bl j) = (i == j) := by
  rw [Bool.eq_iff_iff]
  simp
theorem dec_str {i j : Str} : decide (V.str i = V.str j) = (i == j) := by
  rw [Bool.eq_iff_iff]
  simp
theorem dec_byt {i j : Array UInt8} : decide (V.byt i = V.byt j) = (i.toList == j.toList) := by
  rw [Bool.eq_iff_iff]
  cases i
  cases j
  simp

section
variable {X : Cx} {a b c : Expr} {ta tb tc : TE} {pos : Pos}
theorem fin_bl {pins : List (Addr × Obj)} {σ : St} {H : Hp} {s : Shared} {Q : VK} {k k' : Bool} (I : Inv X pins σ H s) (q : Q (.bl k) H) (e : k = k') : EP X pins σ Q (.bool k') s := by
  subst e
  exact ⟨.bl k, H, I, rfl, q⟩
theorem op_eq : OpR X (compareOp .Eq) rEq := by
  intro pins s σ H x y v u Q I rx ry h
  obtain ⟨hs, q⟩ := h
  cases x with
  | non =>
    cases rx
    cases y with
    | non => cases ry; exact PySem.EqNone.eq_none_none (fin_bl I q (by simp))
    | bl j => cases ry; exact PySem.EqNone.eq_none_bool (fin_bl I q (by simp))
    | int j => obtain ⟨t', rfl⟩ := ry; exact PySem.EqNone.eq_none_int (fin_bl I q (by simp))
    | str j => obtain ⟨t', rfl⟩ := ry; exact PySem.EqNone.eq_none_str (fin_bl I q (by simp))
    | _ => exact absurd (show false = true from hs) Bool.false_ne_true
  | bl i =>
    cases rx
    cases y with
    | non => cases ry; exact PySem.EqNone.eq_bool_none (fin_bl I q (by simp))
    | bl j => cases ry; exact eq_bool (fin_bl I q dec_bl)
    | str j => obtain ⟨t', rfl⟩ := ry; exact PySem.EqMixed.eq_bool_str (fin_bl I q (by simp))
    | _ => exact absurd (show false = true from hs) Bool.false_ne_true
  | int i =>
    obtain ⟨t, rfl⟩ := rx
    cases y with
    | non => cases ry; exact PySem.EqNone.eq_int_none (fin_bl I q (by simp))
    | int j => obtain ⟨t', rfl⟩ := ry; exact eq_int (fin_bl I q dec_int)
    | str j => obtain ⟨t', rfl⟩ := ry; exact PySem.EqMixed.eq_int_str (fin_bl I q (by simp))
    | _ => exact absurd (show false = true from hs) Bool.false_ne_true
  | str i =>
    obtain ⟨t, rfl⟩ := rx
    cases y with
    | non => cases ry; exact PySem.EqNone.eq_str_none (fin_bl I q (by simp))
    | bl j => cases ry; exact PySem.EqMixed.eq_str_bool (fin_bl I q (by simp))
    | int j => obtain ⟨t', rfl⟩ := ry; exact PySem.EqMixed.eq_str_int (fin_bl I q (by simp))
    | str j => obtain ⟨t', rfl⟩ := ry; exact eq_str (fin_bl I q dec_str)
    | _ => exact absurd (show false = true from hs) Bool.false_ne_true
  | byt i =>
    obtain ⟨t, rfl⟩ := rx
    cases y with
    | byt j => obtain ⟨t', rfl⟩ := ry; exact PySem.W.eq_bytes (fin_bl I q dec_byt)
    | _ => exact absurd (show false = true from hs) Bool.false_ne_true
  | _ => cases y <;> exact absurd (show false = true from hs) Bool.false_ne_true
theorem op_ne : OpR X (compareOp .NotEq) rNe := by
  intro pins s σ H x y v u Q I rx ry h
  obtain ⟨hs, q⟩ := h
  cases x with
  | non =>
    cases rx
    cases y with
    | non => cases ry; exact PySem.EqNone.ne_none_none (fin_bl I q (by simp))
    | bl j => cases ry; exact PySem.EqNone.ne_none_bool (fin_bl I q (by simp))
    | int j => obtain ⟨t', rfl⟩ := ry; exact PySem.EqNone.ne_none_int (fin_bl I q (by simp))
    | str j => obtain ⟨t', rfl⟩ := ry; exact PySem.EqNone.ne_none_str (fin_bl I q (by simp))
    | _ => exact absurd (show false = true from hs) Bool.false_ne_true
  | bl i =>
    cases rx
    cases y with
    | non => cases ry; exact PySem.EqNone.ne_bool_none (fin_bl I q (by simp))
    | bl j => cases ry; exact ne_bool (fin_bl I q (congrArg not dec_bl))
    | str j => obtain ⟨t', rfl⟩ := ry; exact PySem.EqMixed.ne_bool_str (fin_bl I q (by simp))
    | _ => exact absurd (show false = true from hs) Bool.false_ne_true
  | int i =>
    obtain ⟨t, rfl⟩ := rx
    cases y with
    | non => cases ry; exact PySem.EqNone.ne_int_none (fin_bl I q (by simp))
    | int j => obtain ⟨t', rfl⟩ := ry; exact ne_int (fin_bl I q (congrArg not dec_int))
    | str j => obtain ⟨t', rfl⟩ := ry; exact PySem.EqMixed.ne_int_str (fin_bl I q (by simp))
    | _ => exact absurd (show false = true from hs) Bool.false_ne_true
  | str i =>
    obtain ⟨t, rfl⟩ := rx
    cases y with
    | non => cases ry; exact PySem.EqNone.ne_str_none (fin_bl I q (by simp))
    | bl j => cases ry; exact PySem.EqMixed.ne_str_bool (fin_bl I q (by simp))
    | int j => obtain ⟨t', rfl⟩ := ry; exact PySem.EqMixed.ne_str_int (fin_bl I q (by simp))
    | str j => obtain ⟨t', rfl⟩ := ry; exact ne_str (fin_bl I q (congrArg not dec_str))
    | _ => exact absurd (show false = true from hs) Bool.false_ne_true
  | byt i =>
    obtain ⟨t, rfl⟩ := rx
    cases y with
    | byt j => obtain ⟨t', rfl⟩ := ry; exact PySem.W.ne_bytes (fin_bl I q (congrArg not dec_byt))
    | _ => exact absurd (show false = true from hs) Bool.false_ne_true
  | _ => cases y <;> exact absurd (show false = true from hs) Bool.false_ne_true

theorem op_lt : OpR X (compareOp .Lt) (rI0 fun i j => .bl (decide (i < j))) := opB0 fun _ _ _ _ _ _ _ q => lt_int q
theorem op_le : OpR X (compareOp .LtE) (rI0 fun i j => .bl (decide (i ≤ j))) := opB0 fun _ _ _ _ _ _ _ q => le_int q
theorem op_gt : OpR X (compareOp .Gt) (rI0 fun i j => .bl (decide (j < i))) := opB0 fun _ _ _ _ _ _ _ q => gt_int q
theorem op_ge : OpR X (compareOp .GtE) (rI0 fun i j => .bl (decide (j ≤ i))) := opB0 fun _ _ _ _ _ _ _ q => ge_int q
theorem nomark (b : Expr) {op : CmpOp} (h : op ≠ .In := by decide) (h2 : op ≠ .NotIn := by decide) : behindInMarks op b = false := by
  have e1 : (op == CmpOp.In) = false := by cases op <;> first | rfl | exact absurd rfl h
  have e2 : (op == CmpOp.NotIn) = false := by cases op <;> first | rfl | exact absurd rfl h2
  cases b <;> simp [behindInMarks, e1, e2]
/-- a comparison as a value; hm: nomark b, or (for in, not in) by with_unfolding_all rfl -/
theorem pe_cmpR {op : CmpOp} {r : R2} (ho : OpR X (compareOp op) r) (ha : PE X a ta) (hb : PE X b tb) (hm : behindInMarks op b = false) : PE X (.Compare a [op] [b] pos) (tOp r ta tb) := by
  intro pins s σ H Q I h
  exact wpAny_Compare1 (binT ha hb I h fun v u s2 x y H2 I2 rx ry q => ho pins s2 σ H2 x y v u Q I2 rx ry q) hm
/-- a reading of a value as a test -/
def tTest (t : TE) : TT := fun σ H Q => t σ H fun x H' => ∃ k, x = .bl k ∧ Q k H'
theorem pt_cmpR {op : CmpOp} {r : R2} (ho : OpR X (compareOp op) r) (ha : PE X a ta) (hb : PE X b tb) (hm : behindInMarks op b = false) : PT X (.Compare a [op] [b] pos) (tTest (tOp r ta tb)) := by
  intro pins s σ H Q I h
  refine wpAny_isTrue_Compare1 (thn (ha pins s σ H _ I h) fun v s1 ⟨x, H1, I1, r1, q1⟩ => thn (hb pins s1 σ H1 _ I1 q1) fun u s2 ⟨y, H2, I2, r2, q2⟩ =>
    thn (ho pins s2 σ H2 x y v u _ I2 r1 r2 q2) fun c s3 ⟨z, H3, I3, r3, k, e, q3⟩ => ?_) hm
  subst e
  cases r3
  exact wpAny_truthy_bool ⟨H3, I3, q3⟩
/-- a op1 b op2 c -/
def tChain (r r' : R2) (ta tb tc : TE) : TE := fun σ H Q => ta σ H fun x H1 => tb σ H1 fun y H2 => r x y H2 fun z H3 => ∃ k, z = .bl k ∧
  (if k = true then tc σ H3 fun w' H4 => r' y w' H4 Q else Q (.bl false) H3)
theorem pe_chain {op op' : CmpOp} {r r' : R2} (ho : OpR X (compareOp op) r) (ho' : OpR X (compareOp op') r') (ha : PE X a ta) (hb : PE X b tb) (hc : PE X c tc)
    (hm : lastMarks [op, op'] [b, c] = false := by with_unfolding_all rfl) : PE X (.Compare a [op, op'] [b, c] pos) (tChain r r' ta tb tc) := by
  intro pins s σ H Q I h
  refine Compare_chain (thn (ha pins s σ H _ I h) fun v s1 ⟨x, H1, I1, r1, q1⟩ => chain_link (thn (hb pins s1 σ H1 _ I1 q1) fun u s2 ⟨y, H2, I2, r2, q2⟩ =>
    thn (ho pins s2 σ H2 x y v u _ I2 r1 r2 q2) fun d s3 ⟨z, H3, I3, r3, k, e, q3⟩ => ?_)) hm
  subst e
  cases r3
  refine wpAny_truthy_bool ?_
  cases k with
  | false => exact ite_ff ⟨.bl false, H3, I3, rfl, q3⟩
  | true => exact ite_tt (chain_last (thn (hc pins s3 σ H3 _ I3 q3) fun w' s4 ⟨z', H4, I4, r4, q4⟩ => ho' pins s4 σ H4 y z' u w' Q I4 r2 r4 q4))
theorem pt_chain {op op' : CmpOp} {r r' : R2} (ho : OpR X (compareOp op) r) (ho' : OpR X (compareOp op') r') (ha : PE X a ta) (hb : PE X b tb) (hc : PE X c tc)
    (hm : lastMarks [op, op'] [b, c] = false := by with_unfolding_all rfl) : PT X (.Compare a [op, op'] [b, c] pos) (tTest (tChain r r' ta tb tc)) := by
  intro pins s σ H Q I h
  refine isTrue_chain (thn (ha pins s σ H _ I h) fun v s1 ⟨x, H1, I1, r1, q1⟩ => test_link (thn (hb pins s1 σ H1 _ I1 q1) fun u s2 ⟨y, H2, I2, r2, q2⟩ =>
    thn (ho pins s2 σ H2 x y v u _ I2 r1 r2 q2) fun d s3 ⟨z, H3, I3, r3, k, e, q3⟩ => ?_)) hm
  subst e
  cases r3
  refine wpAny_truthy_bool ?_
  cases k with
  | false =>
    obtain ⟨k', e', q'⟩ := q3
    cases e'
    exact ite_ff ⟨H3, I3, q'⟩
  | true =>
    refine ite_tt (test_last (thn (hc pins s3 σ H3 _ I3 q3) fun w' s4 ⟨z', H4, I4, r4, q4⟩ => thn (ho' pins s4 σ H4 y z' u w' _ I4 r2 r4 q4) fun d' s5 ⟨z2, H5, I5, r5, k2, e2, q5⟩ => ?_))
    subst e2
    cases r5
    exact wpAny_truthy_bool ⟨H5, I5, q5⟩

/-! ### truth -/
/-- a value's truth by the abstract heap -/
def TruV (K : PySem.W.Frag) (x : V) (H : Hp) (k : Bool) : Prop :=
  match x with
  | .non => k = false
  | .bl b => k = b
  | .int i => k = (i != 0)
  | .str y => y.length ≤ sizeLine ∧ k = ((y.length : Int) != 0)
  | .byt y => y.size ≤ sizeLine ∧ k = ((y.size : Int) != 0)
  | .ref p => (∃ xs, SqL K H p xs ∧ k = !xs.isEmpty) ∨ (∃ xs, SqT K H p xs ∧ k = !xs.isEmpty) ∨ ∃ kvs, H p = some (.dK kvs) ∧ k = !kvs.isEmpty
  | _ => False
theorem isEmpty_kv {κ : Type} {kvs : List (κ × V)} {vs : List (κ × Value)} (r : KV kvs vs) : (!vs.isEmpty) = !kvs.isEmpty := by
  cases r <;> rfl
theorem isEmpty_of {xs : List V} {its : List Value} (r : Vals xs its) : (!its.toArray.isEmpty) = !xs.isEmpty := by
  cases r <;> simp
theorem line63 : (sizeLine : Nat) < 2 ^ 63 := by rw [sizeLine_eq]; decide
theorem tru_ok : TruR X (fun x H Q => ∃ k, TruV X.K x H k ∧ Q k H) := by
  intro pins s σ H x v Q I rx h
  obtain ⟨k, e, q⟩ := h
  have hl := line63
  have hs : sizeLine = 16777216 := sizeLine_eq
  cases x with
  | non =>
    cases rx
    have e' : k = false := e
    subst e'
    exact truthy_none ⟨H, I, q⟩
  | bl b =>
    cases rx
    have e' : k = b := e
    subst e'
    exact wpAny_truthy_bool ⟨H, I, q⟩
  | int i =>
    obtain ⟨t, rfl⟩ := rx
    have e' : k = (i != 0) := e
    subst e'
    exact PySem.P.truthy_int ⟨H, I, q⟩
  | str y =>
    obtain ⟨t, rfl⟩ := rx
    obtain ⟨hy, e'⟩ : y.length ≤ sizeLine ∧ k = ((y.length : Int) != 0) := e
    subst e'
    exact PySem.P.truthy_str (by omega) ⟨H, I.tok _, q⟩
  | byt y =>
    obtain ⟨t, rfl⟩ := rx
    obtain ⟨hy, e'⟩ : y.size ≤ sizeLine ∧ k = ((y.size : Int) != 0) := e
    subst e'
    exact PySem.W.truthy_bytes (by omega) ⟨H, I.tok _, q⟩
  | ref p =>
    cases rx
    have e' : (∃ xs, SqL X.K H p xs ∧ k = !xs.isEmpty) ∨ (∃ xs, SqT X.K H p xs ∧ k = !xs.isEmpty) ∨ ∃ kvs, H p = some (.dK kvs) ∧ k = !kvs.isEmpty := e
    rcases e' with ⟨xs, hx, e'⟩ | ⟨xs, hx, e'⟩ | ⟨kvs, hx, e'⟩
    · subst e'
      obtain ⟨its, r, pl, hz⟩ := I.list hx
      have hlen := r.length
      exact wpAny_truthy_list pl.isList (by simp only [List.size_toArray]; omega) ⟨H, I.tok _, by rw [isEmpty_of r]; exact q⟩
    · subst e'
      obtain ⟨its, r, pl, hz⟩ := I.tuple hx
      have hlen := r.length
      exact truthy_tuple pl (by simp only [List.size_toArray]; omega) ⟨H, I.tok _, by rw [isEmpty_of r]; exact q⟩
    · subst e'
      obtain ⟨hz, hS, vs, r, m⟩ : kvs.length ≤ sizeLine ∧ (p == sysModules) = false ∧ ∃ vs, KV kvs vs ∧ s.heap.DictOf (mixKind X.prog X.w) p vs := I.hok p _ hx
      have hlen : kvs.length = vs.length := Paired.length r
      exact wpAny_truthy_dict hS m (by omega) ⟨H, I.tok _, by rw [isEmpty_kv r]; exact q⟩
  | _ => exact (show False from e).elim
/-- any expression whose test is its value's truth (a name, a call, a subscript, a field ..: he by fun _ => rfl) -/
theorem pt_truth (ha : PE X a ta) (he : ∀ whole, isTrue a X.env whole = (do let v ← whole; standAt a.pos; holding [v] (truthy v))) :
    PT X a (fun σ H Q => ta σ H fun x H' => ∃ k, TruV X.K x H' k ∧ Q k H') := by
  intro pins s σ H Q I h
  exact isTrue_plain (thn (ha pins s σ H _ I h) fun v s1 ⟨x, H1, I1, r1, q1⟩ => tru_ok pins s1 σ H1 x v Q I1 r1 q1) (he _)

/-! ### strs and bytes -/
/-! ### scalar builtins, by CallR -/
theorem vals1 {x : V} {us : List Value} (r : Vals [x] us) : ∃ u, us = [u] ∧ RelV x u := by
  cases r with
  | cons r1 r2 => cases r2; exact ⟨_, rfl, r1⟩
end
end L2

namespace L2
open PySem PySem.Spec PyProof.Rows

/-! ### an instance, its attributes a map -/
structure ObjM (h : Heap) (x dx C : Addr) (mA : Str → Option Value) : Prop where
  obj : h.get? x = some (PySem.W.instObj C dx)
  ns : h.Ns1 dx mA
  ne : dx ≠ x

theorem lookIn_ns {h : Heap} {dx : Addr} {mA : Str → Option Value} (n : h.Ns1 dx mA) : ∃ od, h.get? dx = some od ∧ ∀ name, PySem.W.lookIn name od = some (mA name) := by
  obtain ⟨o, es, ep, ho, hd, hk, _, hm⟩ := n
  refine ⟨o, ho, fun name => ?_⟩
  have e := hm name
  unfold nsFind findBy at e
  rw [← Array.find?_toList] at e
  unfold PySem.W.lookIn
  rw [hd]
  dsimp only
  split
  · rename_i y q
    rw [q] at e
    exact congrArg some e
  · rename_i q
    rw [q] at e
    have a : es.toList.any (·.refKey) = false := by
      rw [List.any_eq_false]
      intro y hy
      obtain ⟨z, t, hkey⟩ := hk y (Array.mem_toList_iff.mp hy)
      simp [DictEntry.refKey, hkey]
    have a' : ¬ es.toList.any (·.refKey) = true := by rw [a]; exact Bool.false_ne_true
    rw [if_neg a']
    exact congrArg some e

theorem ObjM.look {h : Heap} {x dx C : Addr} {mA : Str → Option Value} (I : ObjM h x dx C mA) : ∃ od, PySem.W.InstAt h x (PySem.W.instObj C dx) C (some od) ∧ ∀ name, PySem.W.lookIn name od = some (mA name) :=
  let ⟨od, ho, hl⟩ := lookIn_ns I.ns
  ⟨od, ⟨I.obj, rfl, rfl, ho⟩, hl⟩

section
variable {prog : Program} {w : World} {A : Around} {E : Value → Shared → Prop} {s : Shared} {K : PySem.W.Frag} {x dx C f : Addr} {mA : Str → Option Value} {name : Str} {v : Value}

theorem get_map {expr : Bool} {Q : Value → Shared → Prop} (X : K.In s.heap) (I : ObjM s.heap x dx C mA) (hg : PySem.W.plainGet K C name = true) (hh : PySem.W.hasDictIn K C = true)
    (ha : PySem.W.findIn K (.ref C) name = some none) (hv : mA name = some v) (hv' : PySem.W.handedIn v = true) (h : Q v { s with toks := s.toks + 1 }) :
    wpAny (model prog w) A (getAttr (.ref x) name expr) Q E s := by
  obtain ⟨od, J, hl⟩ := I.look
  exact PySem.W.get_value X J (PySem.W.plainGet_of hg).1 (PySem.W.findObj_own hh ha rfl (by rw [hl, hv])) hv' h

theorem get_meth {pl : Sem Bool} {Q : Value × List Value → Shared → Prop} (X : K.In s.heap) (I : ObjM s.heap x dx C mA) (hg : PySem.W.plainGet K C name = true)
    (hf : PySem.W.findIn K (.ref C) name = some (some (.ref f))) (ht : PySem.W.isFn K (.ref f) = true) (hv : mA name = none) (h : Q (.ref f, [.ref x]) s) :
    wpAny (model prog w) A (getMethod (.ref x) name pl) Q E s := by
  obtain ⟨od, J, hl⟩ := I.look
  exact PySem.W.method_fn X J (PySem.W.plainGet_of hg).1 (PySem.W.plainGet_of hg).2 hf (beq_iff_eq.mp ht) (by show (PySem.W.lookIn name od).map (·.isSome) = some false; rw [hl, hv]; rfl) h

theorem set_map {ns : List Str} {Q : Unit → Shared → Prop} (X : K.In s.heap) (I : ObjM s.heap x dx C mA)
    (hs : PySem.W.findIn K (.ref C) "__setattr__" = some (some (.builtin "object.__setattr__"))) (hp : PySem.W.plainOver K C = true) (ht : PySem.W.takerIn K C name = some none) (hh : PySem.W.hasDictIn K C = true)
    (hw : PySem.Within mA ns) (hsz : ns.length ≤ sizeLine)
    (h : ∀ h', ObjM h' x dx C (fun y => if y = name then some v else mA y) → Heap.SameBut dx s.heap h' → Q () { s with heap := h', toks := s.toks + 2 }) :
    wpAny (model prog w) A (setAttr (.ref x) name v) Q E s := by
  obtain ⟨od, J, hl⟩ := I.look
  refine PySem.W.set_plain X J hs (PySem.W.osa_open (s := { s with toks := s.toks + 1 }) (r := none) X J hp ht fun b => ?_)
  obtain ⟨cd, hc, hd'⟩ := PySem.W.any_some hh
  have hx : s.heap.get? x = some ⟨.ref C, some dx, .plain, #[]⟩ := I.obj
  refine wpAny_bind (wpAny_pure (wpAny_bind (wpAny_bind (wpAny_loadPart hx (wpAny_bind (PySem.W.Looks.here (s := { s with toks := s.toks + 1 }) (PySem.W.looks_clsIn X hc) ?_))))))
  rw [hd']
  refine wpAny_pure (a := some dx) (wpAny_bind (wpAny_pure (wpAny_bind ?_)))
  refine wpAny_nsSet1 (s := { s with toks := s.toks + 1 }) I.ns fun h' hn2 hs2 => ?_
  obtain ⟨oD, esD, epD, hoD, hdD, hcD⟩ := hn2.count (PySem.Within.cons name v hw)
  refine wpAny_bind (wpAny_lookBehind hoD (by rw [hdD]; exact pastItsLine_dict (Nat.le_trans hcD (by rw [List.length_cons]; omega))) ?_)
  exact wpAny_pure (h _ ⟨(hs2.2 _ (Ne.symm I.ne)).trans I.obj, hn2, I.ne⟩ hs2)

/-- C(..): the dict at the heap's end, the instance behind it; then its __init__ -/
theorem make_map {R : Result → Shared → Prop} {vs : List Value} {kw : List (Str × Value)} (X : K.In s.heap) (hm : PySem.W.makesIn K C = true)
    (hi : PySem.W.findIn K (.ref C) "__init__" = some (some (.ref f))) (hf : PySem.W.typeIn K (.ref f) = some (.type "function"))
    (h : codeAny (model prog w) (A.under (.builtin "type.__call__" ⟨.ref C :: vs, kw⟩)) (.call (.ref f) ⟨.ref (s.heap.objs.size + 1) :: vs, kw⟩) (PySem.W.InitBack (s.heap.objs.size + 1) R)
      { s with heap := (s.heap.push PySem.W.emptyDict).push (PySem.W.instObj C s.heap.objs.size) }) :
    codeAny (model prog w) A (.call (.ref C) ⟨vs, kw⟩) R s := by
  obtain ⟨hh, g, d, t, os⟩ := s
  exact PySem.W.make_core (PySem.W.makes_of X hm) (PySem.W.looks_findIn X hi) (fun self => PySem.W.bind_fn X self hf) (.inl rfl) h
end

/-! ### the attributes as a list of pairs -/
def putF (f : Str) (v : V) : List (Str × V) → List (Str × V)
  | [] => [(f, v)]
  | (g, x) :: r => if g = f then (g, v) :: r else (g, x) :: putF f v r
theorem lookup_putF (f g : Str) (v : V) : ∀ fs : List (Str × V), (putF f v fs).lookup g = if g = f then some v else fs.lookup g
  | [] => by
    show List.lookup g [(f, v)] = _
    by_cases h : g = f
    · have hb : (g == f) = true := beq_iff_eq.mpr h
      simp only [List.lookup, hb, if_pos h]
    · have hb : (g == f) = false := beq_eq_false_iff_ne.mpr h
      simp only [List.lookup, hb, if_neg h]
  | (k, x) :: r => by
    have ih := lookup_putF f g v r
    rw [show putF f v ((k, x) :: r) = (if k = f then (k, v) :: r else (k, x) :: putF f v r) from rfl]
    by_cases hk : k = f
    · rw [if_pos hk]
      by_cases h : g = k
      · have hb : (g == k) = true := beq_iff_eq.mpr h
        simp only [List.lookup, hb, if_pos (h.trans hk)]
      · have hb : (g == k) = false := beq_eq_false_iff_ne.mpr h
        simp only [List.lookup, hb, if_neg (fun e : g = f => h (e.trans hk.symm))]
    · rw [if_neg hk]
      by_cases h : g = k
      · have hb : (g == k) = true := beq_iff_eq.mpr h
        simp only [List.lookup, hb, if_neg (fun e : g = f => hk (h.symm.trans e))]
      · have hb : (g == k) = false := beq_eq_false_iff_ne.mpr h
        simp only [List.lookup, hb]
        exact ih
theorem keys_putF (f : Str) (v : V) : ∀ fs : List (Str × V), f ∈ (putF f v fs).map (·.1) ∧ ∀ g, g ∈ fs.map (·.1) → g ∈ (putF f v fs).map (·.1)
  | [] => ⟨by simp [putF], fun g h => by simp at h⟩
  | (k, x) :: r => by
    obtain ⟨i1, i2⟩ := keys_putF f v r
    rw [show putF f v ((k, x) :: r) = (if k = f then (k, v) :: r else (k, x) :: putF f v r) from rfl]
    by_cases hk : k = f
    · rw [if_pos hk]
      subst hk
      exact ⟨by simp, fun g h => by simpa using h⟩
    · rw [if_neg hk]
      refine ⟨?_, fun g h => ?_⟩
      · rw [List.map_cons]
        exact List.mem_cons_of_mem _ i1
      · rw [List.map_cons] at h ⊢
        rcases List.mem_cons.mp h with e | e
        · exact List.mem_cons.mpr (.inl e)
        · exact List.mem_cons_of_mem _ (i2 g e)
theorem length_putF (f : Str) (v : V) : ∀ fs : List (Str × V), (putF f v fs).length ≤ fs.length + 1
  | [] => by simp [putF]
  | (k, x) :: r => by
    have ih := length_putF f v r
    rw [show putF f v ((k, x) :: r) = (if k = f then (k, v) :: r else (k, x) :: putF f v r) from rfl]
    by_cases hk : k = f
    · rw [if_pos hk, List.length_cons, List.length_cons]; omega
    · rw [if_neg hk, List.length_cons, List.length_cons]; omega

theorem RelO.some_of {v : V} {o : Option Value} (r : RelO (some v) o) : ∃ u, o = some u ∧ RelV v u := by
  cases o with
  | none => exact (show False from r).elim
  | some u => exact ⟨u, rfl, r⟩
theorem RelO.none_of {o : Option Value} (r : RelO none o) : o = none := by
  cases o with
  | none => rfl
  | some u => exact (show False from r).elim
theorem handed_of {v : V} {u : Value} (r : RelV v u) : PySem.W.handedIn u = true := by
  cases v with
  | non => cases (show u = Value.none from r); rfl
  | bl b => cases (show u = Value.bool b from r); rfl
  | int i => obtain ⟨t, e⟩ := (show ∃ t, u = Value.int i t from r); cases e; rfl
  | str x => obtain ⟨t, e⟩ := (show ∃ t, u = Value.str x t from r); cases e; rfl
  | byt b => obtain ⟨t, e⟩ := (show ∃ t, u = Value.bytes b t from r); cases e; rfl
  | flt b => obtain ⟨t, e⟩ := (show ∃ t, u = Value.float b t from r); cases e; rfl
  | ref a => cases (show u = Value.ref a from r); rfl
  | ty n => cases (show u = Value.type n from r); rfl

section
variable {P : Program} {w : World} {H H' : Hp} {h h' : Heap} {a C dx : Addr} {fs fs' : List (Str × V)}
theorem ins_get (hok : HOk P w H h) (e : H a = some (.ins C dx fs)) : ∃ mA, ObjM h a dx C mA ∧ (∀ f, RelO (fs.lookup f) (mA f)) ∧ PySem.Within mA (fs.map (·.1)) ∧ fs.length ≤ 1000 ∧ H dx = some (.own a) := by
  obtain ⟨d, z, ne, ob, mA, n, r, q⟩ := (show ObjOk P w H h a (.ins C dx fs) from hok a _ e)
  exact ⟨mA, ⟨ob, n, ne⟩, r, q, z, d⟩
end

/-! ### what of the text a class must have -/
structure Cls (K : PySem.W.Frag) (C : Addr) : Prop where
  pg : PySem.W.plainGet K C Str.empty = true
  hd : PySem.W.hasDictIn K C = true
  po : PySem.W.plainOver K C = true
  sa : PySem.W.findIn K (.ref C) "__setattr__" = some (some (.builtin "object.__setattr__"))
theorem Cls.get {K : PySem.W.Frag} {C : Addr} (c : Cls K C) (f : Str) : PySem.W.plainGet K C f = true := c.pg
/-- no class of it has the name -/
def NoAttr (K : PySem.W.Frag) (C : Addr) (f : Str) : Prop := PySem.W.findIn K (.ref C) f = some none
theorem NoAttr.taker {K : PySem.W.Frag} {C : Addr} {f : Str} (n : NoAttr K C f) : PySem.W.takerIn K C f = some none := by
  unfold PySem.W.takerIn
  rw [show PySem.W.findIn K (.ref C) f = some none from n]
  rfl
/-- a constant of the class -/
structure Con (K : PySem.W.Frag) (C : Addr) (f : Str) (v : V) (u : Value) : Prop where
  at_ : PySem.W.findIn K (.ref C) f = some (some u)
  rel : RelV v u
  get : PySem.W.specialIn K u "__get__" = some none
  cp : PySem.W.copiedNames.contains f = false
/-- a method: a plain def of the class or of one above it -/
structure Meth (K : PySem.W.Frag) (C : Addr) (m : Str) (f : Addr) : Prop where
  at_ : PySem.W.findIn K (.ref C) m = some (some (.ref f))
  fn : PySem.W.isFn K (.ref f) = true
  kp : PySem.W.keepIn K (.ref f) = true

section
variable {X : Cx} {pins : List (Addr × Obj)} {σ : St} {H : Hp} {s : Shared} {a C dx : Addr} {fs : List (Str × V)} {f : Str} {v : V} {A : Around} {E : Value → Shared → Prop}

theorem getattr_ok {b : Bool} {Q : Value → Shared → Prop} (I : Inv X pins σ H s) (e : H a = some (.ins C dx fs)) (c : Cls X.K C) (n : NoAttr X.K C f) (l : fs.lookup f = some v)
    (h : ∀ u s', Inv X pins σ H s' → RelV v u → Q u s') : wpAny (model X.prog X.w) A (getAttr (.ref a) f b) Q E s := by
  obtain ⟨mA, O, r, _, _, _⟩ := ins_get I.hok e
  obtain ⟨u, hu, ru⟩ := RelO.some_of (v := v) (o := mA f) (by rw [← l]; exact r f)
  exact get_map I.kIn O (c.get f) c.hd n hu (handed_of ru) (h u _ (I.tok _) ru)

theorem getmeth_ok {m : Str} {g : Addr} {pl : Sem Bool} {Q : Value × List Value → Shared → Prop} (I : Inv X pins σ H s) (e : H a = some (.ins C dx fs)) (c : Cls X.K C) (k : Meth X.K C m g) (l : fs.lookup m = none)
    (h : Q (.ref g, [.ref a]) s) : wpAny (model X.prog X.w) A (getMethod (.ref a) m pl) Q E s := by
  obtain ⟨mA, O, r, _, _, _⟩ := ins_get I.hok e
  have hn : mA m = none := RelO.none_of (by rw [← l]; exact r m)
  exact get_meth I.kIn O (c.get m) k.at_ k.fn hn h

theorem setattr_ok {y : V} {u : Value} {Q : Unit → Shared → Prop} (I : Inv X pins σ H s) (e : H a = some (.ins C dx fs)) (c : Cls X.K C) (n : NoAttr X.K C f) (hl : fs.length < 1000) (ry : RelV y u)
    (h : ∀ s', Inv X pins σ (upd H a (.ins C dx (putF f y fs))) s' → Q () s') : wpAny (model X.prog X.w) A (setAttr (.ref a) f u) Q E s := by
  obtain ⟨mA, O, r, wi, _, ho⟩ := ins_get I.hok e
  have hz : (fs.map (·.1)).length ≤ sizeLine := by rw [List.length_map, sizeLine_eq]; omega
  refine set_map I.kIn O c.sa c.po n.taker c.hd wi hz fun h' O' sb => h _ ?_
  have hd : ∃ o, h'.get? dx = some o := let ⟨o, _, _, e', _⟩ := O'.ns; ⟨o, e'⟩
  refine I.write (x := a) (e := dx) (by rw [e]; exact True.intro) (.inr ho) (fun b q hb z => (sb.2 b hb).trans z) hd ?_
  refine ⟨by rw [upd_ne O.ne]; exact ho, ?_, O.ne, O'.obj, _, O'.ns, fun g => ?_, fun g hg => ?_⟩
  · have := length_putF f y fs; omega
  · show RelO ((putF f y fs).lookup g) (if g = f then some u else mA g)
    rw [lookup_putF]
    by_cases q : g = f
    · rw [if_pos q, if_pos q]; exact ry
    · rw [if_neg q, if_neg q]; exact r g
  · by_cases q : g = f
    · rw [q]; exact (keys_putF f y fs).1
    · refine (keys_putF f y fs).2 g (wi g fun z => hg ?_)
      show (if g = f then some u else mA g) = none
      rw [if_neg q]; exact z

/-- a new instance, tracked, without attributes -/
theorem Inv.made (I : Inv X pins σ H s) : Inv X pins σ (upd (upd H s.heap.objs.size (.own (s.heap.objs.size + 1))) (s.heap.objs.size + 1) (.ins C s.heap.objs.size []))
    { s with heap := (s.heap.push PySem.W.emptyDict).push (PySem.W.instObj C s.heap.objs.size) } := by
  have e1 : (s.heap.push PySem.W.emptyDict).get? s.heap.objs.size = some PySem.W.emptyDict := Heap.get?_push_size s.heap rfl
  have e2 : ((s.heap.push PySem.W.emptyDict).push (PySem.W.instObj C s.heap.objs.size)).get? (s.heap.objs.size + 1) = some (PySem.W.instObj C s.heap.objs.size) := by
    have := Heap.get?_push_size (s.heap.push PySem.W.emptyDict) (o := PySem.W.instObj C s.heap.objs.size) rfl
    rwa [Heap.size_push] at this
  have e3 : (s.heap.push PySem.W.emptyDict).Ns s.heap.objs.size (fun _ => none) := ⟨PySem.W.emptyDict, #[], _, e1, rfl, (fun e he => absurd he (by simp)), fun _ => rfl⟩
  have I1 := I.laid (a := s.heap.objs.size) (o := .own (s.heap.objs.size + 1)) (h' := s.heap.push PySem.W.emptyDict) (t' := s.toks) (fun b u q => Heap.get?_push_of_some _ q) (Nat.le_refl _) ⟨_, e1⟩
  refine I1.laid (a := s.heap.objs.size + 1) (o := .ins C s.heap.objs.size []) (t' := s.toks) (fun b u q => Heap.get?_push_of_some _ q) (Nat.le_of_eq (Heap.size_push _ _)) ?_
  have ne : s.heap.objs.size ≠ s.heap.objs.size + 1 := Nat.ne_of_lt (Nat.lt_succ_self _)
  refine ⟨by rw [upd_ne ne, upd_same], Nat.zero_le _, ne, e2, fun _ => none, (Heap.Ns1.of_empty e3).at fun o q => Heap.get?_push_of_some _ q, fun _ => True.intro, fun y hy => absurd rfl hy⟩

/-- e.f where nothing but the object is asked: through attributeBase (super) and the last hold -/
theorem attr_of {prog : Program} {w : World} {env : Env} {e : Expr} {f : Str} {pos : Pos} {s : Shared} {Q : Value → Shared → Prop} (hb : attributeBase e f env (eval e env) = eval e env)
    (h : wpAny (model prog w) A (eval e env) (fun o s₁ => wpAny (model prog w) A (getAttr o f true) Q E s₁) E s) : wpAny (model prog w) A (eval (.Attribute e f pos) env) Q E s :=
  Attribute_any_ h (by rw [arm_eval_Attribute, hb])
end

/-! ### readings and rules -/
/-- e.f, an attribute of the instance -/
def tFld (K : PySem.W.Frag) (ta : TE) (f : Str) : TE := fun σ H Q => ta σ H fun x H1 => ∃ a C dx fs v, x = .ref a ∧ H1 a = some (.ins C dx fs) ∧ Cls K C ∧ NoAttr K C f ∧ fs.lookup f = some v ∧ Q v H1
/-- e.f = value -/
def sFld (K : PySem.W.Frag) (ta tv : TE) (f : Str) : TS := fun D σ H => tv σ H fun y H1 => ta σ H1 fun x H2 => ∃ a C dx fs, x = .ref a ∧ H2 a = some (.ins C dx fs) ∧ Cls K C ∧ NoAttr K C f ∧ fs.length < 1000 ∧
  D.nx σ (upd H2 a (.ins C dx (putF f y fs)))
section
variable {X : Cx} {o e value : Expr} {f : Str} {pos pos' tpos : Pos} {ta tv : TE}
theorem pe_fld (he : PE X e ta) (hb : attributeBase e f X.env (eval e X.env) = eval e X.env) : PE X (.Attribute e f pos) (tFld X.K ta f) := by
  intro pins s σ H Q I h
  refine attr_of hb (thn (he pins s σ H _ I h) fun u s1 ⟨x, H1, I1, rx, a, C, dx, fs, v, ex, ea, c, n, l, q⟩ => ?_)
  subst ex
  obtain rfl : u = Value.ref a := rx
  exact getattr_ok I1 ea c n l fun u' s2 I2 ru => ⟨v, H1, I2, ru, q⟩
theorem ps_fld (ha : PE X o ta) (hv : PE X value tv) (hs : swapsWith value (some (.Attribute o f pos')) pos.line X.env = pure false) : PS X (.Assign [.Attribute o f pos'] value pos) (sFld X.K ta tv f) := by
  intro pins s σ H D I h
  refine plainObj_wpAny_Assign_Attribute (thn (hv pins s σ H _ I h) fun u s1 ⟨y, H1, I1, ry, q⟩ => thn (ha pins s1 σ H1 _ I1 q) fun ov s2 ⟨x, H2, I2, rx, a, C, dx, fs, ex, ea, c, n, l, q2⟩ => ?_) hs
  subst ex
  obtain rfl : ov = Value.ref a := rx
  exact setattr_ok I2 ea c n l ry fun s3 I3 => ⟨σ, _, I3, q2⟩
/-- what is between an instance and its method: the tree of a method call -/
theorem methcall_of {pl : Sem Bool} {m : Str} {apos : Pos} {args : List Expr} {pins : List (Addr × Obj)} {s : Shared} {σ : St} {H : Hp} {Q : Value → Shared → Prop} {te : TE} (he : PE X e te) (I : Inv X pins σ H s)
    (h : te σ H fun x H1 => ∃ a C dx fs g, x = .ref a ∧ H1 a = some (.ins C dx fs) ∧ Cls X.K C ∧ Meth X.K C m g ∧ fs.lookup m = none ∧
      ∀ s1, Inv X pins σ H1 s1 → wpAny (model X.prog X.w) X.A (callWith pos (.ref g) [.ref a] (backTo pos (starEach args X.env)) (backToKw pos (keywordEach [] X.env))) Q X.xe s1)
    (ht : eval (.Call (.Attribute e m apos) args [] pos) X.env = (do
      let ov ← eval e X.env
      standAt apos.atName
      let (f, first) ← holding [ov] (getMethod ov m pl)
      callWith pos f first (backTo pos (starEach args X.env)) (backToKw pos (keywordEach [] X.env)))) :
    wpAny (model X.prog X.w) X.A (eval (.Call (.Attribute e m apos) args [] pos) X.env) Q X.xe s := by
  refine PySem.W.methodCall_KW (pl := pl) (thn (he pins s σ H _ I h) fun u s1 ⟨x, H1, I1, rx, a, C, dx, fs, g, ex, ea, c, k, l, q⟩ => ?_) ht
  subst ex
  obtain rfl : u = Value.ref a := rx
  exact getmeth_ok I1 ea c k l (q s1 I1)
end

/-! ### isinstance -/
section
variable {X : Cx} {pins : List (Addr × Obj)} {σ : St} {H : Hp} {s : Shared} {A : Around} {E : Value → Shared → Prop} {Q : Value → Shared → Prop} {c : Value} {b : Bool}
/-- the type of a value, as the fragment's deciders take it; for an instance its class -/
inductive TyOf (K : PySem.W.Frag) (H : Hp) : V → Value → Prop where
  | non : TyOf K H .non (.type "NoneType")
  | bl (x : Bool) : TyOf K H (.bl x) (.type "bool")
  | int (i : Int) : TyOf K H (.int i) (.type "int")
  | str (x : Str) : TyOf K H (.str x) (.type "str")
  | flt (x : UInt64) : TyOf K H (.flt x) (.type "float")
  | lst {a : Addr} {xs : List V} (e : H a = some (.lst xs)) : TyOf K H (.ref a) (.type "list")
  | frz {a : Addr} {o : Obj} {xs : List V} (e : H a = some (.frz o (.lst xs))) : TyOf K H (.ref a) (.type "list")
  | tup {a : Addr} {xs : List V} (e : H a = some (.tup xs)) : TyOf K H (.ref a) (.type "tuple")
  | dK {a : Addr} {kvs : List (Key × V)} (e : H a = some (.dK kvs)) : TyOf K H (.ref a) (.type "dict")
  | dT {a : Addr} {kvs : List (List Key × V)} (e : H a = some (.dT kvs)) : TyOf K H (.ref a) (.type "dict")
  | ins {a C dx : Addr} {fs : List (Str × V)} (e : H a = some (.ins C dx fs)) (cl : Cls K C) (ha : PySem.W.findIn K (.ref C) "__class__" = some (some (.builtin "object.__class__")))
      (hn : PySem.W.specialIn K (.builtin "object.__class__") "__get__" = some (some (.builtin "getset_descriptor.__get__"))) (htk : PySem.W.takesIn K (.builtin "object.__class__") = some true)
      (hm : PySem.W.mroIn K C (.type "object") = some true) : TyOf K H (.ref a) (.ref C)
end
end L2

namespace L2
open PySem PySem.Spec PyProof.Rows

/-! ### room -/
structure Room (k : Nat) (A : Around) : Prop where
  hd : A.handled = none
  dp : A.depth + 3 * k + 5 < recursionLimit
  un : A.units + 16 * k + 200 < cLine
theorem Room.mono {j k : Nat} {A : Around} (r : Room k A) (h : j ≤ k) : Room j A := ⟨r.hd, by have := r.dp; omega, by have := r.un; omega⟩
theorem Room.deeper {k : Nat} {A : Around} (r : Room (k + 1) A) (env : Env) : Room k (A.deeper env) :=
  ⟨r.hd, by have := r.dp; show A.depth + 1 + 3 * k + 5 < _; omega, by have := r.un; show A.units + 3 + 16 * k + 200 < _; omega⟩
theorem make_depth {A : Around} {C : Addr} {us : List Value} {kw : List (Str × Value)} : (A.under (.builtin "type.__call__" ⟨.ref C :: us, kw⟩)).depth = A.depth + 1 := by
  first | rfl | simp [Around.under, Code.weight, Code.isCreation, Code.isGuard, Code.isCaller, Code.frames, Code.isFrame, guardIds]
theorem make_units {A : Around} {C : Addr} {us : List Value} {kw : List (Str × Value)} : (A.under (.builtin "type.__call__" ⟨.ref C :: us, kw⟩)).units = A.units + 1 := by
  first | rfl | simp [Around.under, Code.cUnits, Code.frames, Code.isFrame]
theorem Room.make {k : Nat} {A : Around} (r : Room (k + 1) A) (C : Addr) (us : List Value) (kw : List (Str × Value)) : Room k (A.under (.builtin "type.__call__" ⟨.ref C :: us, kw⟩)) :=
  ⟨r.hd, by have := r.dp; rw [make_depth]; omega, by have := r.un; rw [make_units]; omega⟩
theorem Room.depth {k : Nat} {A : Around} (r : Room k A) : A.depth < recursionLimit := by have := r.dp; omega
theorem Room.units {k : Nat} {A : Around} (r : Room k A) : A.units + 64 < cLine := by have := r.un; omega
/-! ### argument lists and displays -/
def tNil : TA := fun _ H Q => Q [] H
def tCons (ta : TE) (tr : TA) : TA := fun σ H Q => ta σ H fun x H1 => tr σ H1 fun xs H2 => Q (x :: xs) H2
section
variable {X : Cx} {e : Expr} {es : List Expr} {te : TE} {t : TA} {pos : Pos}
theorem pa_nil : PA X [] tNil := fun _ _ _ _ H Q I h => Calls.spliced_nil ⟨[], H, I, .nil, h⟩
theorem pa_cons (ha : PE X e te) (hr : PA X es t) (hs : starEach (e :: es) X.env = (false, eval e X.env) :: starEach es X.env := by rfl) : PA X (e :: es) (tCons te t) := by
  intro pos pins s σ H Q I h
  rw [hs]
  show wpAny _ _ (spliced ((false, eval e X.env) :: backTo pos (starEach es X.env))) _ _ s
  refine Calls.spliced_cons (thn (ha pins s σ H _ I h) fun u s1 ⟨x, H1, I1, r1, q1⟩ => ?_)
  exact thn (hr pos pins s1 σ H1 _ I1 q1) fun us s2 ⟨xs, H2, I2, r2, q2⟩ => ⟨x :: xs, H2, I2, .cons r1 r2, q2⟩

def tLst (t : TA) : TE := fun σ H Q => t σ H fun xs H1 => xs.length ≤ sizeLine ∧ ∀ p, H1 p = none → Q (.ref p) (upd H1 p (.lst xs))
theorem pe_lst (h : PA X es t) : PE X (.List es pos) (tLst t) := by
  intro pins s σ H Q I hq
  refine wpAny_List_spliced (thn (h pos pins s σ H _ I hq) fun us s1 ⟨xs, H1, I1, r, z, q⟩ => ⟨by rw [← r.length]; exact z, ?_⟩)
  have hf : H1 s1.heap.objs.size = none := I1.hok.fresh (Nat.le_refl _)
  refine ⟨.ref s1.heap.objs.size, upd H1 s1.heap.objs.size (.lst xs), I1.laid (t' := s1.toks) (fun b u e => Heap.get?_push_of_some _ e) (Nat.le_refl _) ?_, rfl, q _ hf⟩
  exact ⟨z, us, 0, r, Heap.get?_push_size _ rfl⟩
end

/-! ### what a def promises -/
/-- a def's promise: the bound arguments in the parameters' order, the heap, the wanted end, the wanted exception -/
abbrev Sp := List V → Hp → VK → XK → Prop
/-- how an exception lies behind a call (file 08 gives it): the callers' frames, abstract heap and state ahead of the call, the wish, the exception, the state -/
abbrev CXT := List Env → Hp → Shared → XK → Value → Shared → Prop

/-- the state at a call -/
structure Env0 (P : Program) (w : World) (K : PySem.W.Frag) (mg : Str → Option Value) (base : Heap) (A : Around) (outer : List Env) (s : Shared) (H : Hp) : Prop where
  frames : A.frames = some outer
  mod : Mod K mg base
  bs : ∀ b o, base.get? b = some o → s.heap.get? b = some o ∧ H b = none
  bsz : base.objs.size ≤ s.heap.objs.size
  funs : s.heap.FunFrames base outer
  frf : ∀ b ∈ frs outer, H b = none
  hok : HOk P w H s.heap
  bare : AllBare s.gens
/-- a call's end -/
def CE (outer : List Env) (P : Program) (w : World) (H : Hp) (s : Shared) (Q : VK) (u : Value) (s' : Shared) : Prop :=
  ∃ v H', s'.os = s.os ∧ AllBare s'.gens ∧ Un (frs outer) [] H H' s.heap s'.heap ∧ HOk P w H' s'.heap ∧ RelV v u ∧ Q v H'
def CR (CX : CXT) (outer : List Env) (P : Program) (w : World) (H : Hp) (s : Shared) (Q : VK) (E : XK) (r : Result) (s' : Shared) : Prop :=
  match r with
  | .ok (.ret u) => CE outer P w H s Q u s'
  | .ok _ => False
  | .error e => CX outer H s E e s'
structure FnOk (P : Program) (w : World) (K : PySem.W.Frag) (mg : Str → Option Value) (base : Heap) (CX : CXT) (k : Nat) (f : Addr) (fd : FuncData) (ps : List Str) (sp : Sp) : Prop where
  len : ∀ vs H Q E, sp vs H Q E → vs.length = ps.length
  run : ∀ (A : Around) (outer : List Env) (s : Shared) (H : Hp) (args : Args) (us : List Value) (vs : List V) (Q : VK) (E : XK), Room k A → Env0 P w K mg base A outer s H → BindsTo s fd args (ps.zip us) → Vals vs us → sp vs H Q E →
    codeAny (model P w) A (.call (.ref f) args) (CR CX outer P w H s Q E) s
theorem Env0.make {P : Program} {w : World} {K : PySem.W.Frag} {mg : Str → Option Value} {base : Heap} {A : Around} {outer : List Env} {s : Shared} {H : Hp} (e : Env0 P w K mg base A outer s H) (C : Addr) (us : List Value) (kw : List (Str × Value)) :
    Env0 P w K mg base (A.under (.builtin "type.__call__" ⟨.ref C :: us, kw⟩)) outer s H := ⟨by first | exact e.frames | (simpa [Around.under, Code.envs, Code.isFrame, pushEnvs] using e.frames), e.mod, e.bs, e.bsz, e.funs, e.frf, e.hok, e.bare⟩
section
variable {X : Cx} {pins : List (Addr × Obj)} {σ : St} {H : Hp} {s s' : Shared}
/-- from a body: what a callee wants -/
theorem Inv.env0 (I : Inv X pins σ H s) : Env0 X.prog X.w X.K X.mg X.base X.A X.stack s H :=
  ⟨I.ok.frames, I.ok.mod, I.bs, Nat.le_trans I.ok.bsz I.sz, I.stack, I.stkFree, I.hok, I.bare⟩
/-- behind a call -/
theorem Inv.after {Q : VK} {u : Value} (I : Inv X pins σ H s) (h : CE X.stack X.prog X.w H s Q u s') : EP X pins σ Q u s' := by
  obtain ⟨v, H', os, bare, un, hok, r, q⟩ := h
  obtain ⟨hh, g, d, t, os'⟩ := s'
  obtain rfl : os' = s.os := os
  exact ⟨v, H', I.call (h' := hh) (g' := g) (d' := d) (t' := t) (ch := []) un hok bare (fun b z => absurd z (by simp)), r, q⟩
end

/-! ### calls -/
/-- f(..): the written arguments, then the defaults dvs; E: what is wanted of an exception -/
def tCall (sp : Sp) (dvs : List V) (E : XK) (t : TA) : TE := fun σ H Q => t σ H fun vs H1 => sp (vs ++ dvs) H1 Q E
/-- o.m(..) of an instance of the class at C -/
def tMeth (C : Addr) (m : Str) (sp : Sp) (dvs : List V) (E : XK) (ta : TE) (t : TA) : TE := fun σ H Q => ta σ H fun x H1 => ∃ a dx fs, x = .ref a ∧ H1 a = some (.ins C dx fs) ∧ fs.lookup m = none ∧
  t σ H1 fun vs H2 => sp (x :: (vs ++ dvs)) H2 Q E
/-- C(..): a new instance and its dict, then __init__ -/
def tMake (C : Addr) (sp : Sp) (dvs : List V) (E : XK) (t : TA) : TE := fun σ H Q => t σ H fun vs H1 => ∀ x dx, H1 x = none → H1 dx = none → dx ≠ x →
  sp (.ref x :: (vs ++ dvs)) (upd (upd H1 dx (.own x)) x (.ins C dx [])) (fun v H2 => v = .non ∧ Q (.ref x) H2) E

/-- how the parameters are bound: us the positional arguments, kw the keywords' values by name, ds the defaults that fill up -/
def Binds (K : PySem.W.Frag) (fd : FuncData) (ps : List Str) (ds : List Value) : Prop :=
  ∀ (s : Shared) (us : List Value), K.In s.heap → (us ++ ds).length = ps.length → BindsTo s fd ⟨us, []⟩ (ps.zip (us ++ ds))
/-- every parameter is given -/
theorem Binds.all {K : PySem.W.Frag} {fd : FuncData} {ps : List Str} (h : ∀ us : List Value, us.length = ps.length → bindArgs fd ⟨us, []⟩ = pure (ps.zip us)) : Binds K fd ps [] := fun s us _ hl => by
  rw [List.append_nil] at hl ⊢
  exact .of_eq (h us hl)

/-- an exception of a callee reaches what this body wants of exceptions -/
def Passes (CX : CXT) (X : Cx) (E : XK) : Prop := ∀ (pins : List (Addr × Obj)) (σ : St) (H : Hp) (s : Shared) (e : Value) (s' : Shared), Inv X pins σ H s → CX X.stack H s E e s' → X.xe e s'

section
variable {X : Cx} {CX : CXT} {k : Nat} {f C : Addr} {fd : FuncData} {ps : List Str} {sp : Sp} {dvs : List V} {ds : List Value} {E : XK} {x m : Str} {p pos apos : Pos} {e o : Expr} {es : List Expr} {ta : TE} {t : TA}

/-- the callee runs -/
theorem run_fn {pins : List (Addr × Obj)} {σ : St} {H : Hp} {s : Shared} {Q : VK} {us : List Value} {vs : List V} (F : FnOk X.prog X.w X.K X.mg X.base CX k f fd ps sp) (hr : Room k X.A) (hb : Binds X.K fd ps ds) (hd : Vals dvs ds) (hx : Passes CX X E)
    (I : Inv X pins σ H s) (r : Vals vs us) (h : sp (vs ++ dvs) H Q E) : wpAny (model X.prog X.w) X.A (call (.ref f) us) (EP X pins σ Q) X.xe s := by
  have r2 : Vals (vs ++ dvs) (us ++ ds) := r.append hd
  have hl : (us ++ ds).length = ps.length := by rw [← r2.length]; exact F.len _ _ _ _ h
  refine wpAny_call (codeAny_mono (F.run X.A X.stack s H ⟨us, []⟩ (us ++ ds) (vs ++ dvs) Q E hr I.env0 (hb s us I.kIn hl) r2 h) fun r s' hq => ?_)
  cases r with
  | error e => exact hx pins σ H s e s' I hq
  | ok fl =>
    cases fl with
    | ret u => exact I.after hq
    | next => exact False.elim hq
    | brk => exact False.elim hq
    | cont => exact False.elim hq

theorem pe_call (F : FnOk X.prog X.w X.K X.mg X.base CX k f fd ps sp) (hr : Room k X.A) (hg : Gl X x) (hm : X.mg x = some (.ref f)) (hk : PySem.W.keepIn X.K (.ref f) = true) (hb : Binds X.K fd ps ds) (hd : Vals dvs ds) (hx : Passes CX X E)
    (ha : PA X (e :: es) t) (hdb : (x == ("__debug__" : Str)) = false := by decide) (he : starEach (e :: es) X.env = (false, eval e X.env) :: starEach es X.env := by rfl) (hpl : (backTo pos (starEach es X.env)).any (·.1) = false := by rfl) :
    PE X (.Call (.Name x p) (e :: es) [] pos) (tCall sp dvs E t) := by
  intro pins s σ H Q I h
  refine wpAny_Call_Name_kw (ld_glob I hg hm ?_ hdb)
  refine PySem.W.callWith_K (h₀ := X.base) I.ok.mod.kin hk (thn (ha pos pins s σ H _ I h) fun us s1 ⟨vs, H1, I1, r, q⟩ => ⟨I1.kIn, ?_⟩) he hpl
  exact run_fn F hr hb hd hx I1 r q
/-- o.m() -/
theorem pe_meth0 {pl : Sem Bool} (he : PE X o ta) (c : Cls X.K C) (hm : Meth X.K C m f) (F : FnOk X.prog X.w X.K X.mg X.base CX k f fd ps sp) (hr : Room k X.A) (hb : Binds X.K fd ps ds) (hd : Vals dvs ds) (hx : Passes CX X E)
    (ht : eval (.Call (.Attribute o m apos) [] [] pos) X.env = (do
      let ov ← eval o X.env
      standAt apos.atName
      let (f, first) ← holding [ov] (getMethod ov m pl)
      callWith pos f first (backTo pos (starEach [] X.env)) (backToKw pos (keywordEach [] X.env))) := by rfl) :
    PE X (.Call (.Attribute o m apos) [] [] pos) (tMeth C m sp dvs E ta tNil) := by
  intro pins s σ H Q I h
  refine PySem.W.methodCall_KW (pl := pl) (thn (he pins s σ H _ I h) fun u s1 ⟨x, H1, I1, rx, a, dx, fs, ex, ea, l, q⟩ => ?_) ht
  subst ex
  obtain rfl : u = Value.ref a := rx
  refine getmeth_ok I1 ea c hm l ?_
  exact PySem.W.callWith_K0 (first := [.ref a]) I1.kIn hm.kp (run_fn (us := [.ref a]) (vs := [.ref a]) F hr hb hd hx I1 (.cons rfl .nil) q)

/-- what a class must have to be made -/
structure Mk (K : PySem.W.Frag) (C f : Addr) : Prop where
  makes : PySem.W.makesIn K C = true
  init : PySem.W.findIn K (.ref C) "__init__" = some (some (.ref f))
  fn : PySem.W.isFn K (.ref f) = true
  kp : PySem.W.keepIn K (.ref C) = true

theorem run_make {pins : List (Addr × Obj)} {σ : St} {H : Hp} {s : Shared} {Q : VK} {us : List Value} {vs : List V} (M : Mk X.K C f) (F : FnOk X.prog X.w X.K X.mg X.base CX k f fd ps sp) (hr : Room (k + 1) X.A) (hb : Binds X.K fd ps ds) (hd : Vals dvs ds)
    (hx : Passes CX X E) (I : Inv X pins σ H s) (r : Vals vs us)
    (h : ∀ x dx, H x = none → H dx = none → dx ≠ x → sp (.ref x :: (vs ++ dvs)) (upd (upd H dx (.own x)) x (.ins C dx [])) (fun v H2 => v = .non ∧ Q (.ref x) H2) E) :
    wpAny (model X.prog X.w) X.A (call (.ref C) us) (EP X pins σ Q) X.xe s := by
  have hq := h (s.heap.objs.size + 1) s.heap.objs.size (I.hok.fresh (Nat.le_succ _)) (I.hok.fresh (Nat.le_refl _)) (Nat.ne_of_lt (Nat.lt_succ_self _))
  have I2 := Inv.made (C := C) I
  have r2 : Vals (V.ref (s.heap.objs.size + 1) :: (vs ++ dvs)) (Value.ref (s.heap.objs.size + 1) :: (us ++ ds)) := .cons rfl (r.append hd)
  have hl : (Value.ref (s.heap.objs.size + 1) :: us ++ ds).length = ps.length := by
    have e := r2.length
    rw [F.len _ _ _ _ hq] at e
    exact e.symm
  refine wpAny_call (make_map (f := f) I.kIn M.makes M.init (beq_iff_eq.mp M.fn) (codeAny_mono (F.run _ X.stack _ _ ⟨Value.ref (s.heap.objs.size + 1) :: us, []⟩ (Value.ref (s.heap.objs.size + 1) :: (us ++ ds)) _ _ E (hr.make C us [])
    (I2.env0.make C us []) (hb _ (Value.ref (s.heap.objs.size + 1) :: us) I2.kIn hl) r2 hq) fun r s' hq' => ?_))
  cases r with
  | error e => exact hx pins σ _ _ e s' I2 hq'
  | ok fl =>
    cases fl with
    | ret u =>
      obtain ⟨v, H', I3, rv, ev, q3⟩ := I2.after hq'
      subst ev
      exact ⟨rv, ⟨V.ref (s.heap.objs.size + 1), H', I3, rfl, q3⟩⟩
    | next => exact False.elim hq'
    | brk => exact False.elim hq'
    | cont => exact False.elim hq'
theorem pe_make (M : Mk X.K C f) (F : FnOk X.prog X.w X.K X.mg X.base CX k f fd ps sp) (hr : Room (k + 1) X.A) (hg : Gl X x) (hm : X.mg x = some (.ref C)) (hb : Binds X.K fd ps ds) (hd : Vals dvs ds) (hx : Passes CX X E)
    (ha : PA X (e :: es) t) (hdb : (x == ("__debug__" : Str)) = false := by decide) (he : starEach (e :: es) X.env = (false, eval e X.env) :: starEach es X.env := by rfl) (hpl : (backTo pos (starEach es X.env)).any (·.1) = false := by rfl) :
    PE X (.Call (.Name x p) (e :: es) [] pos) (tMake C sp dvs E t) := by
  intro pins s σ H Q I h
  refine wpAny_Call_Name_kw (ld_glob I hg hm ?_ hdb)
  refine PySem.W.callWith_K (h₀ := X.base) I.ok.mod.kin M.kp (thn (ha pos pins s σ H _ I h) fun us s1 ⟨vs, H1, I1, r, q⟩ => ⟨I1.kIn, ?_⟩) he hpl
  exact run_make M F hr hb hd hx I1 r q
theorem pe_make0 (M : Mk X.K C f) (F : FnOk X.prog X.w X.K X.mg X.base CX k f fd ps sp) (hr : Room (k + 1) X.A) (hg : Gl X x) (hm : X.mg x = some (.ref C)) (hb : Binds X.K fd ps ds) (hd : Vals dvs ds) (hx : Passes CX X E)
    (hdb : (x == ("__debug__" : Str)) = false := by decide) : PE X (.Call (.Name x p) [] [] pos) (tMake C sp dvs E tNil) := by
  intro pins s σ H Q I h
  refine wpAny_Call_Name_kw (ld_glob I hg hm ?_ hdb)
  exact PySem.W.callWith_K0 I.kIn M.kp (run_make (us := []) M F hr hb hd hx I .nil h)
end

/-! ### keywords -/
section
variable {X : Cx} {CX : CXT} {k : Nat} {f C : Addr} {fd : FuncData} {ps ks : List Str} {sp : Sp} {E : XK} {x m : Str} {p pos apos kpos : Pos} {e o : Expr} {es : List Expr} {kws : List Keyword} {te ta : TE} {t tk : TA} {nm : Option Str}
/-- how a call with keywords binds: g puts the positional values us and the keywords' values ws (names ks) in the parameters' order, defaults among them -/
structure KBinds (K : PySem.W.Frag) (fd : FuncData) (ps ks : List Str) (g : List Value → List Value → List Value) (gV : List V → List V → List V) : Prop where
  to : ∀ (s : Shared) (us ws : List Value), K.In s.heap → (g us ws).length = ps.length → BindsTo s fd ⟨us, ks.zip ws⟩ (ps.zip (g us ws))
  rel : ∀ {vs : List V} {us : List Value} {zs : List V} {ws : List Value}, Vals vs us → Vals zs ws → Vals (gV vs zs) (g us ws)
variable {g : List Value → List Value → List Value} {gV : List V → List V → List V}
end

/-! ### a def's body keeps its promise -/
/-- names: the parameters first -/
structure FnScope (N P : List Str) (sc : Scope) : Prop where
  kind : sc.kind = .function
  co : sc.isCoroutine = false
  gen : sc.isGenerator = false
  nd : N.Nodup
  pre : N.take P.length = P
  par : ∀ x ∈ P, sc.names.lookup x = some .local ∨ sc.names.lookup x = some .cell
  nofree : ∀ y ∈ sc.names, y.2 ≠ .free

theorem bindL_out {kindOf : Str → Option NameKind} {x : Str} : ∀ {binds : List (Str × Value)} {m : Str → Option Value}, (∀ v, (x, v) ∉ binds) → bindL kindOf binds m x = m x
  | [], _, _ => rfl
  | (n, v) :: r, m, h => by
    unfold bindL
    rw [bindL_out fun w hw => h w (List.mem_cons_of_mem _ hw)]
    split
    · have : x ≠ n := by rintro rfl; exact h v List.mem_cons_self
      simp [this]
    · rfl
theorem bindC_out {kindOf : Str → Option NameKind} {x : Str} : ∀ {binds : List (Str × Value)} {m : Str → Option Value}, (∀ v, (x, v) ∉ binds) → bindC kindOf binds m x = m x
  | [], _, _ => rfl
  | (n, v) :: r, m, h => by
    unfold bindC
    rw [bindC_out fun w hw => h w (List.mem_cons_of_mem _ hw)]
    split
    · rfl
    · have : x ≠ n := by rintro rfl; exact h v List.mem_cons_self
      simp [this]
theorem bindL_get {kindOf : Str → Option NameKind} {x : Str} {v : Value} : ∀ {P : List Str} {vs : List Value} {i : Nat} {m : Str → Option Value}, P.Nodup → P[i]? = some x → vs[i]? = some v → kindOf x = some .local →
    bindL kindOf (P.zip vs) m x = some v
  | [], _, _, _, _, h, _, _ => by simp at h
  | _ :: _, [], _, _, _, _, h, _ => by simp at h
  | p :: P, w :: vs, 0, m, nd, h1, h2, hk => by
    simp at h1 h2; subst h1; subst h2
    show bindL kindOf ((p, w) :: P.zip vs) m p = _
    unfold bindL
    rw [bindL_out fun v hv => (List.nodup_cons.mp nd).1 (List.of_mem_zip hv).1, if_pos hk]
    simp
  | p :: P, w :: vs, i + 1, m, nd, h1, h2, hk => by
    show bindL kindOf ((p, w) :: P.zip vs) m x = _
    unfold bindL
    exact bindL_get (i := i) (List.nodup_cons.mp nd).2 (by simpa using h1) (by simpa using h2) hk
theorem bindC_get {kindOf : Str → Option NameKind} {x : Str} {v : Value} : ∀ {P : List Str} {vs : List Value} {i : Nat} {m : Str → Option Value}, P.Nodup → P[i]? = some x → vs[i]? = some v → kindOf x ≠ some .local →
    bindC kindOf (P.zip vs) m x = some v
  | [], _, _, _, _, h, _, _ => by simp at h
  | _ :: _, [], _, _, _, _, h, _ => by simp at h
  | p :: P, w :: vs, 0, m, nd, h1, h2, hk => by
    simp at h1 h2; subst h1; subst h2
    show bindC kindOf ((p, w) :: P.zip vs) m p = _
    unfold bindC
    rw [bindC_out fun v hv => (List.nodup_cons.mp nd).1 (List.of_mem_zip hv).1, if_neg hk]
    simp
  | p :: P, w :: vs, i + 1, m, nd, h1, h2, hk => by
    show bindC kindOf ((p, w) :: P.zip vs) m x = _
    unfold bindC
    exact bindC_get (i := i) (List.nodup_cons.mp nd).2 (by simpa using h1) (by simpa using h2) hk

/-- the names' values at the entry -/
def start (N : List Str) (vs : List V) : St := vs.map some ++ List.replicate (N.length - vs.length) none

/-- the context of a def's body, at its entry; an exception leaves the frame, then lies as CX says -/
def cxOf (CX : CXT) (P : Program) (w : World) (K : PySem.W.Frag) (mg : Str → Option Value) (base : Heap) (N : List Str) (qual : Str) (scope : Scope) (f : Addr) (cd : Value) (A : Around) (outer : List Env) (s : Shared) (H : Hp) (E : XK) : Cx where
  prog := P
  w := w
  K := K
  mg := mg
  base := base
  A := A.deeper (envOfC qual scope s.heap.objs.size f cd)
  N := N
  s_0 := s
  H_0 := H
  env := envOfC qual scope s.heap.objs.size f cd
  outer := outer
  stack := envOfC qual scope s.heap.objs.size f cd :: outer
  ex := []
  calm := true
  fn := fun _ => true
  pn := []
  xe := fun e s' => wpAny (model P w) (A.deeper (envOfC qual scope s.heap.objs.size f cd)) (leaving (envOfC qual scope s.heap.objs.size f cd) e) (fun _ s'' => CX outer H s E e s'') (fun e' s'' => CX outer H s E e' s'') s'

theorem cell_has {sc : Scope} {n : Nat} {x : Str} (h : sc.names.lookup x = some .cell) : ∃ c, (cellsFrom n sc.names []).lookup x = some c := by
  have q := PySem.W.cellsFrom_some sc.names n [] (.inl h)
  exact Option.isSome_iff_exists.mp q

theorem inv_start {CX : CXT} {P : Program} {w : World} {K : PySem.W.Frag} {mg : Str → Option Value} {base : Heap} {N ps : List Str} {qual : Str} {scope : Scope} {f : Addr} {cd : Value} {A : Around} {outer : List Env} {s s1 : Shared} {H : Hp} {E : XK} {us : List Value} {vs : List V}
    (S : FnScope N ps scope) (hd : A.handled = none) (e0 : Env0 P w K mg base A outer s H) (hl : vs.length = ps.length) (r : Vals vs us)
    (x : InCallC s s.heap.objs.size (bindL (envOfC qual scope s.heap.objs.size f cd).kindOf (ps.zip us) fun _ => none) (cellsFrom (s.heap.objs.size + 1) scope.names []) (bindC (envOfC qual scope s.heap.objs.size f cd).kindOf (ps.zip us) fun _ => none) s1) :
    Inv (cxOf CX P w K mg base N qual scope f cd A outer s H E) [] (start N vs) H s1 := by
  have hpl : ps.length ≤ N.length := by have := congrArg List.length S.pre; rw [List.length_take] at this; omega
  obtain ⟨h1, tk, rfl, hk⟩ := x.done
  have noA : ∀ b : Addr, b ∉ (cxOf CX P w K mg base N qual scope f cd A outer s H E).ex := fun b z => absurd (show b ∈ ([] : List Addr) from z) (by simp)
  refine ⟨⟨e0.mod, S.kind, rfl, rfl, Nat.le_refl _, fun y z c h1 h2 => ?_, fun y hy => ?_, fun y c _ h => ?_, fun _ => hd, Around.frames_deeper e0.frames, .inr ⟨rfl, rfl⟩, fun b z => absurd z (noA b), e0.bs, e0.bsz, fun b _ _ => noA b, fun b z => absurd z (noA b), e0.funs, e0.frf⟩,
    rfl, e0.bare, Un.kept hk, ⟨_, x.toInCall.ns, fun i y v h1 h2 h3 => ?_⟩, fun y c h => ⟨_, x.cell y c h⟩, e0.hok.fresh (Nat.le_refl _), fun y c h => ?_, fun p hp => absurd (show p ∈ ([] : List (Addr × Obj)) from hp) (by simp), e0.hok.kept hk, ?_⟩
  · exact name_of_addr x.apart (PySem.mem_of_lookup h1) (PySem.mem_of_lookup h2)
  · have hy : scope.names.lookup y = some .cell ∨ scope.names.lookup y = some .free := hy
    rcases hy with hy | hy
    · exact cell_has hy
    · exact absurd rfl (S.nofree _ (PySem.mem_of_lookup hy))
  · exact Nat.le_of_lt (x.above y c (PySem.mem_of_lookup h))
  · have hi : i < vs.length := by
      unfold start at h2
      by_cases hi : i < vs.length
      · exact hi
      · rw [List.getElem?_append_right (by simpa using hi)] at h2
        rw [List.getElem?_replicate] at h2
        split at h2 <;> cases h2
    have ha : vs[i]? = some v := by
      unfold start at h2
      rw [List.getElem?_append_left (by simpa using hi), List.getElem?_map] at h2
      cases e : vs[i]? with
      | none => rw [e] at h2; cases h2
      | some a => rw [e] at h2; cases h2; rfl
    obtain ⟨u, hu, rv⟩ := r.get ha
    have hp : ps[i]? = some y := by
      rw [← S.pre, List.getElem?_take_of_lt (by omega)]; exact h1
    have ndP : ps.Nodup := by rw [← S.pre]; exact S.nd.sublist (List.take_sublist _ _)
    refine ⟨u, rv, ?_⟩
    rcases S.par y (List.mem_of_getElem? hp) with k | k
    · exact .inl ⟨k, bindL_get ndP hp hu k⟩
    · obtain ⟨c, e⟩ := cell_has (n := s.heap.objs.size + 1) k
      refine .inr ⟨.inl k, c, e, ?_⟩
      have q := x.cell y c e
      rw [bindC_get ndP hp hu (by show scope.names.lookup y ≠ _; rw [k]; decide)] at q
      exact q
  · exact e0.hok.fresh (Nat.le_of_lt (x.above y c (PySem.mem_of_lookup h)))
  · unfold start
    show _ = N.length
    rw [List.length_append, List.length_map, List.length_replicate]
    omega

/-- THE RULE: a def (or a method) of the text, by its body. The body's reading t is chosen for each entry; it is run at the parameters' values -/
theorem fn_of {CX : CXT} {P : Program} {w : World} {K : PySem.W.Frag} {mg : Str → Option Value} {base : Heap} {k : Nat} {f : Addr} {name qual : Str} {params : Arguments} {body : List Stmt} {scope : Scope} {dV kV doc pm cdv ct oc : Value} {an od : Option Addr}
    {osl : Array (Option Value)} {N ps : List Str} {sp : Sp} (lk : K.lookup f = some ⟨oc, od, .func (PySem.W.fnOf name qual params body scope dV kV doc pm an cdv ct), osl⟩) (hcd : PySem.W.codeIn K cdv qual = true) (S : FnScope N ps scope)
    (len : ∀ vs H Q E, sp vs H Q E → vs.length = ps.length)
    (hbody : ∀ (A : Around) (outer : List Env) (s : Shared) (H : Hp) (vs : List V) (Q : VK) (E : XK), Room k (A.deeper (envOfC qual scope s.heap.objs.size f cdv)) → sp vs H Q E →
      ∃ t, PSs (cxOf CX P w K mg base N qual scope f cdv A outer s H E) body t ∧ t { nx := fun _ H' => Q .non H', rt := Q } (start N vs) H) :
    FnOk P w K mg base CX (k + 1) f (PySem.W.fnOf name qual params body scope dV kV doc pm an cdv ct) ps sp := by
  refine ⟨len, fun A outer s H args us vs Q E hr e0 hb r hsp => ?_⟩
  have hl := len _ _ _ _ hsp
  have KX : K.In s.heap := e0.mod.kin.keeps fun b o e => (e0.bs b o e).1
  have lim : s.heap.NoLimit := e0.mod.nolimit.keeps fun b o e => (e0.bs b o e).1
  have hkind : ∀ y ∈ ps.zip us, scope.names.lookup y.1 = some .local ∨ (scope.names.lookup y.1 = some .cell ∧ ((cellsFrom (s.heap.objs.size + 1) scope.names []).lookup y.1).isSome = true) := fun ⟨n, v⟩ hy => by
    rcases S.par n (List.of_mem_zip hy).1 with q | q
    · exact .inl q
    · exact .inr ⟨q, PySem.W.cellsFrom_some _ _ _ (.inl q)⟩
  refine codeAny_call_function hr.depth (KX _ _ lk) rfl S.co S.gen rfl (PySem.W.codeRec_of KX hcd) (hb _ _ _ _ ?_)
  refine wpAny_newFunctionEnv_cells S.kind hkind fun env he s1 x => ?_
  subst he
  refine ⟨lim.keeps x.toInCall.keep, codeAny_func ?_⟩
  obtain ⟨t, ht, hq⟩ := hbody A outer s H vs Q E (hr.deeper _) hsp
  have I : Inv (cxOf CX P w K mg base N qual scope f cdv A outer s H E) [] (start N vs) H s1 := inv_start S hr.hd e0 hl r x
  refine wpAny_mono (ht [] s1 (start N vs) H _ I hq) (fun fl s' hs => ?_) fun e s' hs => hs
  have fin : ∀ {σ' : St} {H' : Hp} {v : V} {u : Value}, Inv (cxOf CX P w K mg base N qual scope f cdv A outer s H E) [] σ' H' s' → RelV v u → Q v H' → CE outer P w H s Q u s' :=
    fun {σ' H' v u} J rv q => ⟨v, H', J.os, J.bare, J.base, J.hok, rv, q⟩
  cases fl with
  | ret u =>
    obtain ⟨v, σ', H', J, rv, q⟩ := hs
    exact fin J rv q
  | next =>
    obtain ⟨σ', H', J, q⟩ := hs
    exact fin (v := V.non) (u := Value.none) J rfl q
  | brk =>
    obtain ⟨_, _, _, q⟩ := hs
    exact False.elim q
  | cont =>
    obtain ⟨_, _, _, q⟩ := hs
    exact False.elim q
end L2

namespace L2
open PySem PySem.Spec PyProof.Rows
section
variable {X : Cx} {x : Str} {p pos : Pos} {e : Expr} {es : List Expr} {t : TA} {id T : String} {r : List V → Hp → VK → Prop}

def tCB (r : List V → Hp → VK → Prop) (t : TA) : TE := fun σ H Q => t σ H fun vs H1 => r vs H1 Q
/-- f(e, ..), f a built-in function -/
theorem pe_callB (hc : CallR X (.builtin id) r) (hg : Gl X x) (hm : X.mg x = none) (hv : bootBuiltins x = some (.builtin id)) (ha : PA X (e :: es) t) (hn : x ≠ "__name__" := by decide) (hdb : (x == ("__debug__" : Str)) = false := by decide)
    (he : starEach (e :: es) X.env = (false, eval e X.env) :: starEach es X.env := by rfl) (hpl : (backTo pos (starEach es X.env)).any (·.1) = false := by rfl) : PE X (.Call (.Name x p) (e :: es) [] pos) (tCB r t) := by
  intro pins s σ H Q I h
  refine wpAny_Call_Name_kw (ld_blt I hg hm hv ?_ hn hdb)
  exact PyProof.Rows.callWith_builtin1 (thn (ha pos pins s σ H _ I h) fun us s1 ⟨vs, H1, I1, r1, q1⟩ => hc pins s1 σ H1 vs us Q I1 r1 q1) he hpl
/-- T(e, ..), T a built-in type -/
theorem pe_callTy (hc : CallR X (.type T) r) (hg : Gl X x) (hm : X.mg x = none) (hv : bootBuiltins x = some (.type T)) (ha : PA X (e :: es) t) (hn : x ≠ "__name__" := by decide) (hdb : (x == ("__debug__" : Str)) = false := by decide)
    (he : starEach (e :: es) X.env = (false, eval e X.env) :: starEach es X.env := by rfl) (hpl : (backTo pos (starEach es X.env)).any (·.1) = false := by rfl) : PE X (.Call (.Name x p) (e :: es) [] pos) (tCB r t) := by
  intro pins s σ H Q I h
  refine wpAny_Call_Name_kw (ld_blt I hg hm hv ?_ hn hdb)
  exact PyProof.Rows.callWith_type1 (thn (ha pos pins s σ H _ I h) fun us s1 ⟨vs, H1, I1, r1, q1⟩ => hc pins s1 σ H1 vs us Q I1 r1 q1) he hpl
end
end L2

namespace HT
open PySem PyProof.Rows

section
open PySem.SeqAt
open PySem.AutoSeq1 (wpAny_loadPart')
open PySem.MeetsSeq PySem.MeetsSeq2 PySem.MeetsSeq3

end

section
variable {prog : Program} {w : World} {A : Around} {E : Value → Shared → Prop} {s : Shared}

/-! ### t[a:b], not the whole -/
/-- a slice's bound as a place among n (d where it is left out) -/
def sIx (n d : Nat) : Option Int → Nat
  | none => d
  | some v => if v < 0 then (v + (n : Int)).toNat else min v.toNat n
theorem sIx_none (n d : Nat) : sIx n d none = d := rfl
theorem sIx_nat (n d k : Nat) : sIx n d (some (k : Int)) = min k n := by
  show (if (k : Int) < 0 then ((k : Int) + (n : Int)).toNat else min (k : Int).toNat n) = min k n
  rw [if_neg (by omega), Int.toNat_natCast]
end
end HT

namespace L2
open PySem PySem.Spec PyProof.Rows

/-! ### the parts of a slice -/
abbrev TO := St → Hp → (Option Int → Hp → Prop) → Prop
/-- a slice's part (left out, or an int) -/
def PO (X : Cx) (e : Option Expr) (t : TO) : Prop :=
  ∀ (pins : List (Addr × Obj)) (s : Shared) (σ : St) (H : Hp) (Q : Option Int → Hp → Prop), Inv X pins σ H s → t σ H Q →
    wpAny (model X.prog X.w) X.A (evalPart e X.env) (fun u s' => ∃ o H', Inv X pins σ H' s' ∧ IsPart u o ∧ Q o H') X.xe s
def tNoPart : TO := fun _ H Q => Q none H
def tPart (t : TE) : TO := fun σ H Q => t σ H fun x H1 => ∃ i, x = .int i ∧ Q (some i) H1

section
variable {X : Cx} {e : Expr} {te : TE} {lo hi : Option Expr} {tl th : TO} {pos p2 : Pos}

theorem po_none : PO X none tNoPart := by
  intro pins s σ H Q I h
  rw [evalPart_none]
  exact wpAny_pure ⟨none, H, I, .none, h⟩
theorem po_some (h : PE X e te) : PO X (some e) (tPart te) := by
  intro pins s σ H Q I hw
  rw [evalPart_some]
  refine thn (h pins s σ H _ I hw) fun u s1 ⟨x, H1, I1, r1, q1⟩ => ?_
  obtain ⟨i, rfl, q⟩ := q1
  obtain ⟨t, rfl⟩ := r1
  exact ⟨some i, H1, I1, .int i t, q⟩

/-- what a slice of a value is, by values: the slice object stands at sl -/
def SlR (X : Cx) (r : V → Option Int → Option Int → Hp → VK → Prop) : Prop :=
  ∀ (pins : List (Addr × Obj)) (s : Shared) (σ : St) (H : Hp) (x : V) (v vl vu : Value) (lo hi : Option Int) (sl : Addr) (Q : VK), Inv X pins σ H s → RelV x v → s.heap.IsSliceOf sl vl vu .none → IsPart vl lo → IsPart vu hi → r x lo hi H Q →
    ∃ T id, typeLookup (.type T) "__getitem__" = pure (some (.builtin id)) ∧ s.TypeIs v T ∧ wpAny (model X.prog X.w) X.A (getItem v (.ref sl)) (EP X pins σ Q) X.xe s
def tSl (r : V → Option Int → Option Int → Hp → VK → Prop) (te : TE) (tl th : TO) : TE := fun σ H Q => te σ H fun x H1 => tl σ H1 fun l H2 => th σ H2 fun u H3 => r x l u H3 Q
/-- a[lo:hi], any a -/
theorem pe_slice {r : V → Option Int → Option Int → Hp → VK → Prop} (hr : SlR X r) (he : PE X e te) (hl : PO X lo tl) (hu : PO X hi th) : PE X (.Subscript e (.Slice lo hi none p2) pos) (tSl r te tl th) := by
  intro pins s σ H Q I h
  refine Subscript_ (thn (he pins s σ H _ I h) fun v s1 ⟨x, H1, I1, r1, q1⟩ => ?_)
  refine wpAny_Slice (thn (hl pins s1 σ H1 _ I1 q1) fun vl s2 ⟨l, H2, I2, pl, q2⟩ => thn (hu pins s2 σ H2 _ I2 q2) fun vu s3 ⟨u, H3, I3, pu, q3⟩ => ?_)
  rw [evalPart_none]
  refine wpAny_pure ?_
  have I4 : Inv X pins σ H3 { s3 with heap := s3.heap.push { cls := .type "slice", data := .fields #[vl, vu, .none] } } := I3.kept (t' := s3.toks) fun b ob q => Heap.get?_push_of_some _ q
  obtain ⟨T, id, hT, ht, hg⟩ := hr pins { s3 with heap := s3.heap.push { cls := .type "slice", data := .fields #[vl, vu, .none] } } σ H3 x v vl vu l u s3.heap.objs.size Q I4 r1 (Heap.IsSliceOf.new ..) pl pu q3
  show wpAny (model X.prog X.w) X.A (subscriptTail e (.Slice lo hi none p2) v (.ref s3.heap.objs.size)) (EP X pins σ Q) X.xe { s3 with heap := s3.heap.push { cls := .type "slice", data := .fields #[vl, vu, .none] } }
  exact tail_any (ops := [.ref s3.heap.objs.size, v]) ht hT hg (by with_unfolding_all rfl)

/-- the items of xs[lo:hi] -/
def cutV (xs : List V) (lo hi : Option Int) : List V := (xs.drop (HT.sIx xs.length 0 lo)).take (HT.sIx xs.length xs.length hi - HT.sIx xs.length 0 lo)
theorem cutV_length (xs : List V) (lo hi : Option Int) : (cutV xs lo hi).length ≤ xs.length := by
  unfold cutV
  rw [List.length_take, List.length_drop]
  omega
/-! ### t < u, t + u -/
end
end L2

namespace L2
open PySem PySem.Spec PyProof.Rows

/-! ### places -/
/-- the place that an index of any sign means -/
def ixN (n : Nat) (i : Int) : Option Nat := if 0 ≤ i then (if i < n then some i.toNat else none) else if -(n : Int) ≤ i then some (i + n).toNat else none
def atI {α : Type} (xs : List α) (i : Int) : Option α := (ixN xs.length i).bind fun j => xs[j]?
theorem ixN_seq {n : Nat} {i : Int} {j : Nat} (h : ixN n i = some j) : seqIndex? i n = some j ∧ j < n ∧ -(n : Int) ≤ i ∧ i < n := by
  unfold ixN at h
  by_cases h0 : 0 ≤ i
  · rw [if_pos h0] at h
    by_cases h1 : i < n
    · rw [if_pos h1] at h
      have e : i.toNat = j := Option.some.inj h
      exact ⟨by rw [seqIndex_of h0 h1, e], by omega, by omega, h1⟩
    · rw [if_neg h1] at h; cases h
  · rw [if_neg h0] at h
    by_cases h1 : -(n : Int) ≤ i
    · rw [if_pos h1] at h
      have e : (i + n).toNat = j := Option.some.inj h
      exact ⟨by rw [seqIndex_neg (by omega) h1, e], by omega, h1, by omega⟩
    · rw [if_neg h1] at h; cases h
theorem atI_get {α : Type} {xs : List α} {i : Int} {v : α} (h : atI xs i = some v) : ∃ j, seqIndex? i xs.length = some j ∧ xs[j]? = some v ∧ j < xs.length ∧ -(xs.length : Int) ≤ i ∧ i < xs.length := by
  unfold atI at h
  cases e : ixN xs.length i with
  | none => rw [e] at h; cases h
  | some j =>
    rw [e] at h
    obtain ⟨h1, h2, h3, h4⟩ := ixN_seq e
    exact ⟨j, h1, h, h2, h3, h4⟩
theorem atI_nat {α : Type} {xs : List α} {j : Nat} {v : α} (h : xs[j]? = some v) : atI xs (j : Int) = some v := by
  have hj : j < xs.length := (List.getElem?_eq_some_iff.mp h).1
  have e : ixN xs.length (j : Int) = some j := by
    unfold ixN
    rw [if_pos (by omega), if_pos (by omega)]; simp
  unfold atI; rw [e]; exact h
/-! ### what may be subscripted -/
/-- what stands as an index of a plain subscript -/
def PlainIx (b : Expr) : Prop := ∀ o i, subscripted b false o i = operate [o, i] (getItem o i)
/-- a subscript by values -/
def IxR (X : Cx) (r : R2) : Prop :=
  ∀ (value slice : Expr) (pins : List (Addr × Obj)) (s : Shared) (σ : St) (H : Hp) (x y : V) (v u : Value) (Q : VK), Inv X pins σ H s → RelV x v → RelV y u → r x y H Q →
    subscripted slice false v u = operate [v, u] (getItem v u) → wpAny (model X.prog X.w) X.A (subscriptTail value slice v u) (EP X pins σ Q) X.xe s
/-- a call of a builtin's method by values: the receiver, the arguments -/
def MtR (X : Cx) (id : String) (r : V → List V → Hp → VK → Prop) : Prop :=
  ∀ (pins : List (Addr × Obj)) (s : Shared) (σ : St) (H : Hp) (x : V) (xs : List V) (v : Value) (us : List Value) (Q : VK), Inv X pins σ H s → RelV x v → Vals xs us → r x xs H Q →
    wpAny (model X.prog X.w) X.A (call (.builtin id) (v :: us)) (EP X pins σ Q) X.xe s
section
variable {X : Cx} {a b : Expr} {ta tb : TE} {pos : Pos}
/-- a[b] -/
theorem pe_ix {r : R2} (hr : IxR X r) (ha : PE X a ta) (hb : PE X b tb) (hs : PlainIx b) : PE X (.Subscript a b pos) (tOp r ta tb) := by
  intro pins s σ H Q I h
  exact Subscript_ (binT ha hb I h fun v u s2 x y H2 I2 rx ry q => hr a b pins s2 σ H2 x y v u Q I2 rx ry q (hs _ _))

def rIxL (K : PySem.W.Frag) : R2 := fun x y H Q => ∃ p xs i v, x = .ref p ∧ y = .int i ∧ SqL K H p xs ∧ atI xs i = some v ∧ Q v H
theorem ix_list : IxR X (rIxL X.K) := by
  intro value slice pins s σ H x y v u Q I rx ry h hs
  obtain ⟨p, xs, i, z, rfl, rfl, hq, he, q⟩ := h
  cases rx
  obtain ⟨t, rfl⟩ := ry
  obtain ⟨its, r, pl, hz⟩ := I.list hq
  obtain ⟨j, h1, h2, h3, h4, h5⟩ := atI_get he
  obtain ⟨w, ew, rw'⟩ := r.get h2
  have hl := r.length
  have hn := line63
  have fin : EP X pins σ Q w s := ⟨z, H, I, rw', q⟩
  by_cases h0 : 0 ≤ i
  · have hj : i.toNat = j := by
      rw [seqIndex_of h0 h5] at h1
      exact Option.some.inj h1
    exact item_listR pl.isList h0 (by omega) (by rw [hj]; simpa using ew) fin hs
  · have hj : (i + (its.toArray.size : Int)).toNat = j := by
      rw [seqIndex_neg (by omega) h4] at h1
      rw [List.size_toArray, ← hl]
      exact Option.some.inj h1
    exact subscriptTail_builtinR (x := w) pl.isList.typeIs slot_list_getitem.lookup
      (wpAny_getItem_list_neg (Q := fun r s' => r = w ∧ EP X pins σ Q r s') pl.isList (by omega) (by rw [List.size_toArray] <;> omega) (by omega) (by rw [hj]; simpa using ew) ⟨rfl, fin⟩) hs
/-! ### xs[i] = v, any sign -/
/-- the list's object behind a store -/
theorem mapSeq_set (its : List Value) (n j : Nat) (u : Value) : Obj.mapSeq (·.setIfInBounds j u) { cls := .type "list", data := .seq its.toArray n } = { cls := .type "list", data := .seq (its.set j u).toArray n } := by
  simp [Obj.mapSeq]
theorem Inv.lst {pins : List (Addr × Obj)} {σ : St} {H : Hp} {s : Shared} {p : Addr} {xs : List V} (I : Inv X pins σ H s) (h : H p = some (.lst xs)) :
    ∃ (its : List Value) (n : Nat), Vals xs its ∧ s.heap.get? p = some { cls := .type "list", data := .seq its.toArray n } ∧ xs.length ≤ sizeLine := by
  obtain ⟨z, its, n, r, e⟩ := I.hok p _ h
  exact ⟨its, n, r, e, z⟩
/-- the list at p is written by an update of its object -/
theorem Inv.lstUpd {pins : List (Addr × Obj)} {σ : St} {H : Hp} {s : Shared} {p : Addr} {xs ys : List V} {its its' : List Value} {n n' : Nat} {f : Obj → Obj} (I : Inv X pins σ H s) (h : H p = some (.lst xs))
    (ho : s.heap.get? p = some { cls := .type "list", data := .seq its.toArray n }) (hf : f { cls := .type "list", data := .seq its.toArray n } = { cls := .type "list", data := .seq its'.toArray n' }) (r : Vals ys its') (hz : ys.length ≤ sizeLine) (t : Nat) :
    Inv X pins σ (upd H p (.lst ys)) { s with heap := s.heap.update p f, toks := t } := by
  have e : (s.heap.update p f).get? p = some { cls := .type "list", data := .seq its'.toArray n' } := by
    rw [Heap.get?_update_self f ho (by rw [hf] <;> rfl), hf]
  refine I.write (x := p) (e := p) (by rw [h]; trivial) (.inl rfl) (fun b u hb q => (Heap.get?_update_other _ _ (Ne.symm hb)).trans q) ⟨_, e⟩ ?_
  exact ⟨hz, its', n', r, e⟩
def rSetL : V → V → V → Hp → (Hp → Prop) → Prop := fun o i v H Q => ∃ p xs k j, o = .ref p ∧ i = .int k ∧ H p = some (.lst xs) ∧ ixN xs.length k = some j ∧ Q (upd H p (.lst (xs.set j v)))
theorem set_list : PSet X rSetL := by
  intro pins s σ H o i v ov iv u Q I ro ri rv h
  obtain ⟨p, xs, k, j, rfl, rfl, hp, hj, q⟩ := h
  cases ro
  obtain ⟨t, rfl⟩ := ri
  obtain ⟨its, n, r, ho, hz⟩ := I.lst hp
  obtain ⟨h1, h2, h3, h4⟩ := ixN_seq hj
  have hl := r.length
  have hn := line63
  have I' : Inv X pins σ (upd H p (.lst (xs.set j v))) { s with heap := s.heap.update p (Obj.mapSeq (·.setIfInBounds j u)) } :=
    I.lstUpd hp ho (mapSeq_set its n j u) (r.set rv j) (by rw [List.length_set]; exact hz) s.toks
  by_cases h0 : 0 ≤ k
  · have hk : k.toNat = j := by
      rw [seqIndex_of h0 h4] at h1
      exact Option.some.inj h1
    exact PySem.W.ki_setAt ho h0 (by omega) (by rw [List.size_toArray, ← hl]; exact h4) (by rw [hk]; exact ⟨_, I', q⟩)
  · have hk : (k + (its.toArray.size : Int)).toNat = j := by
      rw [seqIndex_neg (by omega) h3] at h1
      rw [List.size_toArray, ← hl]
      exact Option.some.inj h1
    exact PySem.W.ki_setBack ho (by omega) (by rw [List.size_toArray, ← hl]; exact h3) (by omega) (by rw [hk]; exact ⟨_, I', q⟩)

/-! ### slices -/
theorem slice_bounds (lo hi : Option Int) (n : Nat) : (sliceBounds lo hi none n).1 = ((HT.sIx n 0 lo : Nat) : Int) ∧ (sliceBounds lo hi none n).2.1 = ((HT.sIx n n hi : Nat) : Int) ∧ (sliceBounds lo hi none n).2.2 = 1 := by
  refine ⟨?_, ?_, rfl⟩
  · cases lo with
    | none => simp [sliceBounds, HT.sIx]
    | some i =>
      simp only [sliceBounds, HT.sIx, Option.getD_none, show (1 : Int) > 0 by decide, if_true]
      by_cases h : i < 0
      · simp only [h, if_true] <;> omega
      · simp only [h, if_false] <;> omega
  · cases hi with
    | none => simp [sliceBounds, HT.sIx]
    | some i =>
      simp only [sliceBounds, HT.sIx, Option.getD_none, show (1 : Int) > 0 by decide, if_true]
      by_cases h : i < 0
      · simp only [h, if_true] <;> omega
      · simp only [h, if_false] <;> omega
theorem slicePick_cut (its : List Value) (lo hi : Option Int) : slicePick its.toArray lo hi none = ((its.drop (HT.sIx its.length 0 lo)).take (HT.sIx its.length its.length hi - HT.sIx its.length 0 lo)).toArray := by
  obtain ⟨h1, h2, h3⟩ := slice_bounds lo hi its.toArray.size
  unfold slicePick
  rw [h1, h2, h3]
  simp only [sliceRange_one, pick_run, List.size_toArray] <;> rfl
/-- xs[lo:hi] of a list: a new list -/
def rSlL (K : PySem.W.Frag) : V → Option Int → Option Int → Hp → VK → Prop := fun x lo hi H Q => ∃ a xs, x = .ref a ∧ SqL K H a xs ∧ ∀ p, H p = none → Q (.ref p) (upd H p (.lst (cutV xs lo hi)))
theorem sl_list : SlR X (rSlL X.K) := by
  intro pins s σ H x v vl vu lo hi sl Q I rx hs pl pu h
  obtain ⟨a, xs, rfl, hx, q⟩ := h
  cases rx
  obtain ⟨its, r, ht, hz⟩ := I.list hx
  have hlen := r.length
  refine ⟨"list", _, slot_list_getitem.lookup, ht.isList.typeIs, ?_⟩
  refine wpAny_getItem_list_slice ht.isList hs pl pu .none (by simp) ?_ (by rw [List.size_toArray] <;> omega)
  rw [slicePick_cut, ← hlen]
  refine ⟨.ref s.heap.objs.size, _, I.laid (t' := s.toks) (o := .lst (cutV xs lo hi)) (fun b ob q => Heap.get?_push_of_some _ q) (Nat.le_refl _) ?_, rfl, q _ (I.hok.fresh (Nat.le_refl _))⟩
  exact ⟨Nat.le_trans (cutV_length xs lo hi) hz, _, 0, (r.drop (HT.sIx xs.length 0 lo)).take (HT.sIx xs.length xs.length hi - HT.sIx xs.length 0 lo), Heap.get?_push_size _ rfl⟩

/-! ### in, not in: flat items -/
/-! ### len, list(x), tuple(x) of any list or tuple that is read -/
theorem call_len_seq : CallR X (.builtin "len") (fun xs H Q => ∃ p ys, xs = [.ref p] ∧ (SqL X.K H p ys ∨ SqT X.K H p ys) ∧ Q (.int ys.length) H) := by
  intro pins s σ H xs us Q I r h
  obtain ⟨p, ys, rfl, hq, q⟩ := h
  obtain ⟨u, rfl, rx⟩ := vals1 r
  cases rx
  have hn := line63
  rcases hq with hq | hq
  · obtain ⟨its, r', pl, hz⟩ := I.list hq
    have hlen := r'.length
    exact Calls.call_len_list pl.isList (by simp only [List.size_toArray] <;> omega) ⟨.int ys.length, H, I.tok _, ⟨s.toks + 1, by rw [List.size_toArray, hlen]⟩, q⟩
  · obtain ⟨its, r', pl, hz⟩ := I.tuple hq
    have hlen := r'.length
    exact len_tuple pl (by simp only [List.size_toArray] <;> omega) ⟨.int ys.length, H, I.tok _, ⟨s.toks + 1, by rw [List.size_toArray, hlen]⟩, q⟩
/-! ### the call of a builtin's method: o.m(..) -/
/-- the value is of that builtin type -/
def tyV (K : PySem.W.Frag) (T : String) (x : V) (H : Hp) : Prop := match x with
  | .str _ => T = "str"
  | .int _ => T = "int"
  | .ref p => (T = "list" ∧ ∃ xs, SqL K H p xs) ∨ (T = "tuple" ∧ ∃ o, K.lookup p = some o ∧ o.cls = .type "tuple" ∧ o.dict = none) ∨
      (T = "dict" ∧ ((∃ kvs, H p = some (.dK kvs)) ∨ ∃ kvs, H p = some (.dT kvs))) ∨ (T = "set" ∧ ∃ S n, H p = some (.set S n))
  | _ => False
theorem tyV_is {pins : List (Addr × Obj)} {σ : St} {H : Hp} {s : Shared} {T : String} {x : V} {v : Value} (I : Inv X pins σ H s) (r : RelV x v) (ty : tyV X.K T x H) :
    s.TypeIs v T ∧ ∀ a, v = .ref a → ∃ ob, s.heap.get? a = some ob ∧ ob.dict = none := by
  cases x with
  | str z =>
    obtain ⟨t, rfl⟩ := r
    cases (show T = "str" from ty)
    exact ⟨typeIs_str s z t, fun _ e => nomatch e⟩
  | int i =>
    obtain ⟨t, rfl⟩ := r
    cases (show T = "int" from ty)
    exact ⟨typeIs_int s i t, fun _ e => nomatch e⟩
  | ref p =>
    cases r
    rcases ty with ⟨rfl, xs, hq⟩ | ⟨rfl, o, hk, hc, hd⟩ | ⟨rfl, hk⟩ | ⟨rfl, S, n, hk⟩
    · obtain ⟨its, _, pl, _⟩ := I.list hq
      refine ⟨pl.isList.typeIs, fun a e => ?_⟩
      cases e
      obtain ⟨o, n, e, c, hd, _⟩ := pl
      exact ⟨o, e, hd⟩
    · refine ⟨⟨o, I.kIn p o hk, hc⟩, fun a e => ?_⟩
      cases e
      exact ⟨o, I.kIn _ o hk, hd⟩
    · have z : ∃ o, s.heap.get? p = some o ∧ o.ExactDict := by
        rcases hk with ⟨kvs, hk⟩ | ⟨kvs, hk⟩
        · obtain ⟨_, _, _, _, o, _, _, e, ex, _⟩ := I.hok p _ hk
          exact ⟨o, e, ex⟩
        · obtain ⟨_, _, _, _, o, _, _, e, ex, _⟩ := I.hok p _ hk
          exact ⟨o, e, ex⟩
      obtain ⟨o, e, ex⟩ := z
      refine ⟨⟨o, e, ex.1⟩, fun a e2 => ?_⟩
      cases e2
      exact ⟨o, e, ex.2.1⟩
    · obtain ⟨o, _, _, _, e, ex, _⟩ := I.hok p _ hk
      refine ⟨⟨o, e, ex.1⟩, fun a e2 => ?_⟩
      cases e2
      exact ⟨o, e, ex.2.1⟩
  | _ => exact False.elim ty
def tBM0 (K : PySem.W.Frag) (T : String) (r : V → List V → Hp → VK → Prop) (to : TE) : TE := fun σ H Q => to σ H fun x H1 => tyV K T x H1 ∧ r x [] H1 Q
def tBM (K : PySem.W.Frag) (T : String) (r : V → List V → Hp → VK → Prop) (to : TE) (t : TA) : TE := fun σ H Q => to σ H fun x H1 => tyV K T x H1 ∧ t σ H1 fun xs H2 => r x xs H2 Q
variable {o e : Expr} {es : List Expr} {to : TE} {t : TA} {name : Str} {apos cpos : Pos} {T id : String} {r : V → List V → Hp → VK → Prop}
theorem pe_bm0 (pa : PlainAttrs T) (slot : Slot T name id) (hty : typeOf (.builtin id) = pure (.type "method_descriptor")) (hm : MtR X id r) (ho : PE X o to)
    (hbase : attributeBase o name X.env (eval o X.env) = eval o X.env := by rfl) (hline : (apos.endLine == cpos.line) = true := by rfl) : PE X (.Call (.Attribute o name apos) [] [] cpos) (tBM0 X.K T r to) := by
  intro pins s σ H Q I h
  refine wpAny_Call_method0_late hbase hline (thn (ho pins s σ H _ I h) fun v s1 ⟨x, H1, I1, r1, ty, q1⟩ => ?_)
  obtain ⟨h1, h2⟩ := tyV_is I1 r1 ty
  exact ⟨T, id, pa, slot, hty, h1, h2, Calls.callWith_builtin rfl (PySem.evalArgs_none (hm pins s1 σ H1 x [] v [] Q I1 r1 .nil q1))⟩
theorem pe_bm (pa : PlainAttrs T) (slot : Slot T name id) (hty : typeOf (.builtin id) = pure (.type "method_descriptor")) (hm : MtR X id r) (ho : PE X o to) (ha : PA X (e :: es) t)
    (hbase : attributeBase o name X.env (eval o X.env) = eval o X.env := by rfl)
    (hfew : ((backTo cpos (starEach (e :: es) X.env)).all (fun x => !x.1) && (backToKw cpos (keywordEach [] X.env)).all (fun x => x.1.isSome)
      && decide ((e :: es).length + ([] : List Keyword).length + (if ([] : List Keyword).isEmpty then 0 else 1) < 30)) = true := by rfl)
    (hline : (apos.endLine == cpos.line) = true := by rfl) (hs : starEach (e :: es) X.env = (false, eval e X.env) :: starEach es X.env := by rfl) (hplain : (backTo cpos (starEach es X.env)).any (·.1) = false := by rfl) :
    PE X (.Call (.Attribute o name apos) (e :: es) [] cpos) (tBM X.K T r to t) := by
  intro pins s σ H Q I h
  refine wpAny_Call_method_late hbase hfew hline rfl (thn (ho pins s σ H _ I h) fun v s1 ⟨x, H1, I1, r1, ty, q1⟩ => ?_)
  obtain ⟨h1, h2⟩ := tyV_is I1 r1 ty
  refine ⟨T, id, pa, slot, hty, h1, h2, ?_⟩
  have hA := ha cpos pins s1 σ H1 _ I1 q1
  rw [hs] at hA ⊢
  refine Calls.callWith_builtin (by show (false || (backTo cpos (starEach es X.env)).any (·.1)) = false; rw [hplain] <;> rfl) (Calls.evalArgs_plain ?_)
  exact thn hA fun us s2 ⟨vs, H2, I2, r2, q2⟩ => hm pins s2 σ H2 x vs v us Q I2 r1 r2 q2
/- xs.append(e), list.index on a module's tuple .. are MtR facts of 06m -/
end
end L2

namespace L2
open PySem PySem.Spec PyProof.Rows

def MtM (X : Cx) (id : String) (r : V → List V → Hp → VK → Prop) : Prop :=
  ∀ (pins : List (Addr × Obj)) (s : Shared) (σ : St) (H : Hp) (x : V) (xs : List V) (v : Value) (us : List Value) (Q : VK), Inv X pins σ H s → RelV x v → Vals xs us → r x xs H Q →
    wpAny (model X.prog X.w) X.A (call (.builtin id) (v :: us)) (EP X pins σ Q) X.xe s

/-! ### lists of values -/
theorem Vals.one : ∀ {x : V} {us : List Value}, Vals [x] us → ∃ u, us = [u] ∧ RelV x u
  | _, _, .cons r .nil => ⟨_, rfl, r⟩
theorem Vals.zero : ∀ {us : List Value}, Vals [] us → us = []
  | _, .nil => rfl
theorem Vals.dropLast {xs : List V} {us : List Value} (h : Vals xs us) : Vals xs.dropLast us.dropLast := by
  induction h with
  | nil => exact .nil
  | cons r t ih =>
    cases t with
    | nil => exact .nil
    | cons q t' => exact .cons r ih
theorem Vals.rep {xs : List V} {us : List Value} (h : Vals xs us) : ∀ k : Nat, Vals (List.replicate k xs).flatten (List.replicate k us).flatten
  | 0 => .nil
  | k + 1 => by
    rw [List.replicate_succ, List.replicate_succ, List.flatten_cons, List.flatten_cons]
    exact Vals.append h (Vals.rep h k)
theorem erase_last {α : Type} (l : List α) : l.eraseIdx (l.length - 1) = l.dropLast := by
  induction l with
  | nil => rfl
  | cons a r ih =>
    cases r with
    | nil => rfl
    | cons b r =>
      have e : (a :: b :: r).length - 1 = ((b :: r).length - 1) + 1 := by
        have h1 : (a :: b :: r).length = r.length + 2 := rfl
        have h2 : (b :: r).length = r.length + 1 := rfl
        omega
      rw [e, List.eraseIdx_cons_succ, ih]
      all_goals rfl
theorem foldl_rep (its : List Value) : ∀ (k : Nat) (acc : List Value),
    List.foldl (fun x1 x2 => x1 ++ x2) acc.toArray (List.replicate k its.toArray) = (acc ++ (List.replicate k its).flatten).toArray
  | 0, acc => by simp
  | k + 1, acc => by
    have e : acc.toArray ++ its.toArray = (acc ++ its).toArray := by simp
    have e2 : (acc ++ its) ++ (List.replicate k its).flatten = acc ++ (List.replicate (k + 1) its).flatten := by
      rw [List.replicate_succ, List.flatten_cons, List.append_assoc]
    rw [← e2, ← foldl_rep its k (acc ++ its), ← e, List.replicate_succ, List.foldl_cons]

section
variable {X : Cx} {pins : List (Addr × Obj)} {σ : St} {H : Hp} {s : Shared} {l b : Addr} {xs ys zs : List V}

/-! ### the two steps: a tracked list is rewritten, a new list is laid -/
theorem Inv.lset {its its' : List Value} {n : Nat} {f : Array Value → Array Value} {t' : Nat} (I : Inv X pins σ H s) (hH : H l = some (.lst xs))
    (e : s.heap.get? l = some { cls := .type "list", data := .seq its.toArray n }) (hf : f its.toArray = its'.toArray) (hv : Vals ys its') (hz : ys.length ≤ sizeLine) :
    Inv X pins σ (upd H l (.lst ys)) { s with heap := s.heap.update l (Obj.mapSeq f), toks := t' } := by
  have q := PySem.IsL.update e f
  rw [hf] at q
  refine I.write (x := l) (e := l) (by rw [hH]; exact trivial) (.inl rfl) (fun b' u hb hu => (Heap.get?_update_other s.heap (Obj.mapSeq f) (Ne.symm hb)).trans hu) ⟨_, q⟩ ?_
  exact ⟨hz, its', _, hv, q⟩
theorem Inv.lnew {its : List Value} {t' : Nat} (I : Inv X pins σ H s) (hv : Vals ys its) (hz : ys.length ≤ sizeLine) :
    Inv X pins σ (upd H s.heap.objs.size (.lst ys)) { s with heap := s.heap.push { cls := .type "list", data := .seq its.toArray }, toks := t' } :=
  I.laid (fun _ _ q => Heap.get?_push_of_some _ q) (Nat.le_refl _) ⟨hz, its, 0, hv, Heap.get?_push_size _ rfl⟩
theorem Inv.fresh (I : Inv X pins σ H s) : H s.heap.objs.size = none := I.hok.fresh (Nat.le_refl _)
theorem Inv.lstM (I : Inv X pins σ H s) (hH : H l = some (.lst xs)) : xs.length ≤ sizeLine ∧ ∃ (its : List Value) (n : Nat), Vals xs its ∧ xs.length = its.length ∧ s.heap.get? l = some { cls := .type "list", data := .seq its.toArray n } := by
  obtain ⟨z, its, n, r, e⟩ := I.hok l _ hH
  exact ⟨z, its, n, r, r.length, e⟩

theorem notLongL {n : Nat} (h : n ≤ sizeLine) : Builtin.List.listTooLong n = false := by
  unfold Builtin.List.listTooLong
  exact decide_eq_false (by omega)
end

section
variable {X : Cx}

/-! ### methods -/
def rAppend : V → List V → Hp → VK → Prop := fun x vs H Q => ∃ l xs y, x = .ref l ∧ vs = [y] ∧ H l = some (.lst xs) ∧ xs.length < sizeLine ∧ Q .non (upd H l (.lst (xs ++ [y])))
theorem mt_append : MtM X "list.append" rAppend := by
  intro pins s σ H x vs v us Q I rx rv h
  obtain ⟨l, xs, y, rfl, rfl, hH, hz, q⟩ := h
  cases rx
  obtain ⟨u, rfl, ru⟩ := rv.one
  obtain ⟨z, its, n, r, hl, e⟩ := I.lstM hH
  refine call_meets F.slot_list_append ⟨_, e, rfl⟩ F.entry_list_append (F.args_list_append_2 _ _) (PySem.list_append l its.toArray n u (by rw [List.size_toArray]; omega)) ⟨e, ?_⟩
  refine ⟨.non, _, I.lset (its' := its ++ [u]) hH e (by simp) (r.append (.cons ru .nil)) ?_, rfl, q⟩
  rw [List.length_append, List.length_singleton]
  omega

def rExtend : V → List V → Hp → VK → Prop := fun x vs H Q => ∃ l b xs zs, x = .ref l ∧ vs = [.ref b] ∧ H l = some (.lst xs) ∧ H b = some (.lst zs) ∧ xs.length + zs.length ≤ sizeLine ∧ Q .non (upd H l (.lst (xs ++ zs)))
theorem mt_extend : MtM X "list.extend" rExtend := by
  intro pins s σ H x vs v us Q I rx rv h
  obtain ⟨l, b, xs, zs, rfl, rfl, hH, hB, hz, q⟩ := h
  cases rx
  obtain ⟨u, rfl, ru⟩ := rv.one
  cases ru
  obtain ⟨z, its, n, r, hl, e⟩ := I.lstM hH
  obtain ⟨z2, its2, n2, r2, hl2, e2⟩ := I.lstM hB
  have hsz : its.toArray.size + its2.toArray.size ≤ sizeLine := by rw [List.size_toArray, List.size_toArray]; omega
  have hlong : ¬ (!its.toArray.isEmpty && Builtin.List.listTooLong (its.toArray.size + its2.toArray.size)) = true := by
    rw [notLongL hsz, Bool.and_false]
    exact Bool.false_ne_true
  refine call_meets F.slot_list_extend ⟨_, e, rfl⟩ F.entry_list_extend (F.args_list_extend_2 _ _)
    (AutoSeq1.list_extend_list_list_0 l its.toArray n b its2.toArray n2 hlong (by rw [List.size_toArray]; omega) (by omega)) ⟨e, e2, ?_⟩
  refine ⟨.non, _, I.lset (its' := its ++ its2) hH e (by simp) (r.append r2) ?_, rfl, q⟩
  rw [List.length_append]
  omega

def rPop : V → List V → Hp → VK → Prop := fun x vs H Q => ∃ l xs y, x = .ref l ∧ vs = [] ∧ H l = some (.lst xs) ∧ xs[xs.length - 1]? = some y ∧ Q y (upd H l (.lst xs.dropLast))
theorem mt_pop : MtM X "list.pop" rPop := by
  intro pins s σ H x vs v us Q I rx rv h
  obtain ⟨l, xs, y, rfl, rfl, hH, hy, q⟩ := h
  cases rx
  have hus := rv.zero
  subst hus
  obtain ⟨z, its, n, r, hl, e⟩ := I.lstM hH
  obtain ⟨u, hu, ru⟩ := r.get hy
  have hy' : its.toArray[its.toArray.size - 1]? = some u := by
    show its.toArray[its.length - 1]? = some u
    rw [← Array.getElem?_toList, ← hl]
    exact hu
  refine call_meets F.slot_list_pop ⟨_, e, rfl⟩ F.entry_list_pop (F.args_list_pop_1 _) (MeetsSeq.list_pop_last l its.toArray n u hy' (by rw [List.size_toArray]; omega)) ⟨e, ?_⟩
  refine ⟨y, _, I.lset (its' := its.dropLast) hH e ?_ r.dropLast ?_, ru, q⟩
  · show its.toArray.eraseIdxIfInBounds (its.toArray.size - 1) = its.dropLast.toArray
    rw [List.size_toArray, List.eraseIdxIfInBounds_toArray, erase_last]
  · rw [List.length_dropLast]
    omega

/-! ### list + list, list += list, list * int -/
def rCat : R2 := fun x y H Q => ∃ l b xs zs, x = .ref l ∧ y = .ref b ∧ H l = some (.lst xs) ∧ H b = some (.lst zs) ∧ xs.length + zs.length ≤ sizeLine ∧ ∀ p, H p = none → Q (.ref p) (upd H p (.lst (xs ++ zs)))
theorem op_cat : OpR X (binaryOp .Add) rCat := by
  intro pins s σ H x y v u Q I rx ry h
  obtain ⟨l, b, xs, zs, rfl, rfl, hH, hB, hz, q⟩ := h
  cases rx
  cases ry
  obtain ⟨z, its, n, r, hl, e⟩ := I.lstM hH
  obtain ⟨z2, its2, n2, r2, hl2, e2⟩ := I.lstM hB
  refine PySem.P.add_list e e2 ?_ (by rw [List.size_toArray, List.size_toArray]; omega)
  have ea : its.toArray ++ its2.toArray = (its ++ its2).toArray := by simp
  rw [ea]
  exact ⟨.ref _, _, I.lnew (t' := s.toks) (r.append r2) (by rw [List.length_append]; omega), rfl, q _ I.fresh⟩
/-- a list times an int (a negative one is nothing) -/
def rRep : R2 := fun x y H Q => ∃ l k xs, x = .ref l ∧ y = .int k ∧ H l = some (.lst xs) ∧ -(2 ^ 63) ≤ k ∧ k < 2 ^ 63 ∧ xs.length * k.toNat ≤ sizeLine ∧
  ∀ p, H p = none → Q (.ref p) (upd H p (.lst (List.replicate k.toNat xs).flatten))
theorem len_rep {α : Type} (xs : List α) (k : Nat) : (List.replicate k xs).flatten.length = k * xs.length := by
  induction k with
  | zero => simp
  | succ k ih => rw [List.replicate_succ, List.flatten_cons, List.length_append, ih, Nat.succ_mul, Nat.add_comm]
theorem op_rep : OpR X (binaryOp .Mult) rRep := by
  intro pins s σ H x y v u Q I rx ry h
  obtain ⟨l, k, xs, rfl, rfl, hH, h1, h2, hz, q⟩ := h
  cases rx
  obtain ⟨t, rfl⟩ := ry
  obtain ⟨z, its, n, r, hl, e⟩ := I.lstM hH
  have hlen : its.toArray.size * k.toNat ≤ sizeLine := by rw [List.size_toArray, ← hl]; exact hz
  have hcap : ¬ its.toArray.size * k.toNat > (2 ^ 63 - 1) / 8 := by
    have : (sizeLine : Nat) ≤ (2 ^ 63 - 1) / 8 := by decide
    omega
  have hfit : ¬ (!Builtin.List.listFitsIndex k) = true := by
    rw [fitsIndex_both h1 h2]
    exact Bool.false_ne_true
  have hlong : ¬ Builtin.List.listTooLong (its.toArray.size * k.toNat) = true := by
    rw [notLongL hlen]
    exact Bool.false_ne_true
  have hnew : List.foldl (fun x1 x2 => x1 ++ x2) #[] (List.replicate (if its.toArray.isEmpty = true then 0 else k.toNat) its.toArray) = (List.replicate k.toNat its).flatten.toArray := by
    have f0 : ∀ m : Nat, List.foldl (fun x1 x2 => x1 ++ x2) #[] (List.replicate m its.toArray) = (List.replicate m its).flatten.toArray := fun m => by
      have := foldl_rep its m []
      rw [List.nil_append] at this
      exact this
    rw [f0]
    cases its with
    | nil => simp
    | cons a r' => rw [if_neg (by simp)]
  refine wpAny_binaryOp_repeat_ref (T := "list") (U := "int") (by decide) ⟨_, e, rfl⟩ (fun s' => typeIs_int s' k t) noFill_list_mul F.fills_int_mul F.slot_int_rmul repeat_list F.slot_int_index.lookup
    (call_meets F.slot_int_rmul (typeIs_int s k t) F.entry_int_rmul (F.args_int_rmul_2 _ _) (int___rmul___int_list k t l its.toArray n)
      ⟨e, rfl, ⟨_, e, rfl⟩, call_meets F.slot_list_mul ⟨_, e, rfl⟩ F.entry_list_mul (F.args_list_mul_2 _ _) (AutoListH.list___mul___list_int_3 l its.toArray n k t hfit hcap hlong) ⟨e, ?_⟩⟩)
  rw [hnew]
  exact ⟨.ref _, _, I.lnew (t' := s.toks) (r.rep k.toNat) (by rw [len_rep, Nat.mul_comm]; exact hz), rfl, q _ I.fresh⟩

/-! ### del xs[i] -/
end

/-! ### xs[a:b] = ys -/
section
variable {prog : Program} {w : World} {A : Around} {E : Value → Shared → Prop} {s : Shared}
end

section
variable {X : Cx}
end
end L2

namespace L2
open PySem PySem.Spec PyProof.Rows

theorem Vals.ints : ∀ {ns : List Int} {us : List Value}, Vals (ns.map V.int) us → IntsAre us ns
  | [], us, h => by
    rw [List.map_nil] at h
    cases h
    exact IntsAre.nil
  | n :: ns, us, h => by
    rw [List.map_cons] at h
    cases h with
    | cons r t =>
      obtain ⟨k, rfl⟩ := r
      exact IntsAre.cons n k (Vals.ints t)
theorem vals_of_ints : ∀ {us : List Value} {ns : List Int}, IntsAre us ns → Vals (ns.map V.int) us
  | _, _, .nil => by rw [List.map_nil]; exact Paired.nil
  | _, _, .cons n t h => by rw [List.map_cons]; exact Paired.cons (show RelV (V.int n) (Value.int n t) from ⟨t, rfl⟩) (vals_of_ints h)
theorem Vals.bls : ∀ {bs : List Bool} {us : List Value}, Vals (bs.map V.bl) us → us = bs.map Value.bool
  | [], us, h => by
    rw [List.map_nil] at h
    cases h
    rfl
  | b :: bs, us, h => by
    rw [List.map_cons] at h
    cases h with
    | cons r t =>
      cases r
      rw [Vals.bls t, List.map_cons]
theorem Vals.ref1 {a : Addr} {us : List Value} (r : Vals [V.ref a] us) : us = [Value.ref a] := by
  cases r with
  | cons r t =>
    cases t
    cases r
    rfl
/-! ### the library's walks over a list of ints, kept objects alone -/
section
variable {prog : Program} {w : World} {A : Around} {E : Value → Shared → Prop} {s : Shared} {l : Addr} {its : List Value} {ns : List Int} {Q : Value → Shared → Prop}
end

/-! ### the calls, by values (CallR of 03t; MtR of 06l) -/
section
variable {X : Cx}
/-! sorted, sort (fewer than 64 items: the library's own bound) -/
theorem small64 {n : Nat} (h : n < 64) : n ≤ sizeLine := by rw [sizeLine_eq]; omega
end

/-! ### list.index, flat items -/
section
variable {X : Cx}
end

/-! ### type(x) of an own instance; is, is not of a module's class -/
section
variable {X : Cx}
end

/-! ### any(xs), all(xs) of a list of bools -/
theorem iter_any {prog : Program} {w : World} {A : Around} {E : Value → Shared → Prop} {s : Shared} {l : Addr} {items : Array Value} {Q : Value → Shared → Prop} (hl : s.heap.IsList l items)
    (h : ∀ s₂ : Shared, s₂ = { s with heap := s.heap.push { cls := .type "list_iterator", data := .fields #[.ref l, .int 0 0] } } →
      (s₂.heap.IsListIter s.heap.objs.size l 0 ∧ s₂.heap.IsList l items) → l ≠ s.heap.objs.size → Q (.ref s.heap.objs.size) s₂) : wpAny (model prog w) A (pyIter (.ref l)) Q E s := by
  have hlt : l < s.heap.objs.size := by obtain ⟨_, e, _⟩ := hl; exact Heap.lt_size e
  exact wpAny_pyIter_list hl (h _ rfl ⟨⟨_, Heap.get?_push_size _ rfl, rfl, rfl⟩, hl.push _⟩ (Nat.ne_of_lt hlt))
theorem truth_bools {prog : Program} {w : World} {A : Around} {bs : List Bool} {its : List Value} (e : its = bs.map Value.bool) :
    TruthOf prog w A (fun i v => its.toArray[i]? = some v) (fun i => bs.getD i false) := fun i v s Q E hv hq => by
  have hv' : its[i]? = some v := by simpa using hv
  rw [e, List.getElem?_map] at hv'
  obtain ⟨b, hb, rfl⟩ := Option.map_eq_some_iff.mp hv'
  have hg : bs.getD i false = b := by rw [List.getD_eq_getElem?_getD, hb] <;> rfl
  have hq' : Q (bs.getD i false) s := hq
  rw [hg] at hq'
  exact wpAny_truthy_bool hq'
theorem any_range : ∀ bs : List Bool, (List.range bs.length).any (fun i => bs.getD i false) = bs.any id
  | [] => rfl
  | b :: bs => by
    rw [List.length_cons, List.range_succ_eq_map, List.any_cons, List.any_map, List.any_cons, ← any_range bs]
    all_goals rfl
section
variable {X : Cx}
def rAny (K : PySem.W.Frag) : List V → Hp → VK → Prop := fun vs H Q => ∃ (a : Addr) (bs : List Bool), vs = [V.ref a] ∧ SqL K H a (bs.map V.bl) ∧ Q (.bl (bs.any id)) H
theorem cr_any (hc : X.calm = true) : CallR X (.builtin "any") (rAny X.K) := by
  intro pins s σ H vs us Q I r h
  obtain ⟨a, bs, rfl, hs, q⟩ := h
  obtain ⟨its, rv, hl, _⟩ := I.list hs
  rw [Vals.ref1 r]
  have hb := rv.bls
  refine call_any_walk (iter_any hl.isList fun s₂ e2 st hne => ?_)
  subst e2
  refine ⟨_, _, _, _, _, _, _, rfl, Walks.list (A := X.A.in1) (I.ok.hd hc) _ a hne its.toArray, st, truth_bools hb, fun h' tk hk => ?_⟩
  refine ⟨.bl _, H, I.kept fun b o eo => hk b o (fun hmem => ?_) (Heap.get?_push_of_some _ eo), ?_, q⟩
  · rcases List.mem_cons.mp hmem with e1 | hmem
    · exact absurd (e1 ▸ Heap.lt_size eo) (Nat.lt_irrefl _)
    · cases hmem
  · show Value.bool _ = Value.bool _
    rw [← any_range, hb, List.size_toArray, List.length_map]
end

/-! ### == and != of data at any depth: none, bools, ints, texts, lists, tuples -/
mutual
inductive Dp (K : PySem.W.Frag) (H : Hp) : V → PyData → Prop
  | non : Dp K H .non .none
  | bl (b : Bool) : Dp K H (.bl b) (.bool b)
  | int (i : Int) : Dp K H (.int i) (.int i)
  | str (x : Str) : Dp K H (.str x) (.str x)
  | lst {a : Addr} {xs : List V} {ds : List PyData} : SqL K H a xs → DpAll K H xs ds → Dp K H (.ref a) (.list ds)
  | tup {a : Addr} {xs : List V} {ds : List PyData} : SqT K H a xs → DpAll K H xs ds → Dp K H (.ref a) (.tuple ds)
inductive DpAll (K : PySem.W.Frag) (H : Hp) : List V → List PyData → Prop
  | nil : DpAll K H [] []
  | cons {v : V} {vs : List V} {d : PyData} {ds : List PyData} : Dp K H v d → DpAll K H vs ds → DpAll K H (v :: vs) (d :: ds)
end
section
variable {X : Cx} {pins : List (Addr × Obj)} {σ : St} {H : Hp} {s : Shared}
mutual
theorem Dp.reads (I : Inv X pins σ H s) : ∀ (d : PyData) (v : V) (u : Value), Dp X.K H v d → RelV v u → ∃ as, Reads s.heap u d as
  | .none, _, _, h, r => by
    cases h
    cases r
    exact ⟨_, Reads.none⟩
  | .bool b, _, _, h, r => by
    cases h
    cases r
    exact ⟨_, Reads.bool b⟩
  | .int i, _, _, h, r => by
    cases h
    obtain ⟨t, rfl⟩ := r
    exact ⟨_, Reads.int i t⟩
  | .str x, _, _, h, r => by
    cases h
    obtain ⟨t, rfl⟩ := r
    exact ⟨_, Reads.str x t⟩
  | .list ds, _, _, h, r => by
    cases h with
    | lst hs ha =>
      cases r
      obtain ⟨its, rv, ⟨o, n, ho, hc, _, hd⟩, _⟩ := I.list hs
      obtain ⟨as, hr⟩ := Dp.readsAll I ds _ its ha rv
      exact ⟨_, Reads.list ho hc hd hr⟩
  | .tuple ds, _, _, h, r => by
    cases h with
    | tup hs ha =>
      cases r
      obtain ⟨its, rv, ⟨o, ho, hc, n, hd⟩, _⟩ := I.tuple hs
      obtain ⟨as, hr⟩ := Dp.readsAll I ds _ its ha rv
      exact ⟨_, Reads.tuple ho hc hd hr⟩
  | .dict _, _, _, h, _ => by cases h
theorem Dp.readsAll (I : Inv X pins σ H s) : ∀ (ds : List PyData) (vs : List V) (us : List Value), DpAll X.K H vs ds → Vals vs us → ∃ as, ReadsAll s.heap us ds as
  | [], _, _, h, r => by
    cases h
    cases r
    exact ⟨_, ReadsAll.nil⟩
  | d :: ds, _, _, h, r => by
    cases h with
    | cons h1 h2 =>
      cases r with
      | cons r1 r2 =>
        obtain ⟨as, q1⟩ := Dp.reads I d _ _ h1 r1
        obtain ⟨bs, q2⟩ := Dp.readsAll I ds _ _ h2 r2
        exact ⟨_, ReadsAll.cons q1 q2⟩
end
end
section
variable {X : Cx}
end
end L2

namespace L2
open PySem PySem.Spec PyProof.Rows
abbrev CellAt (h : Heap) (c : Addr) (v : Option Value) : Prop := h.IsCell c v
def relS (scope sc : Scope) : Scope :=
  { scope with names := scope.names.map fun (n, k) => if (k == .free && sc.kind == .function && sc.names.lookup n == some .cell) then (n, .cell) else (n, k) }

def cloFrom (cells : List (Str × Addr)) : List (Str × NameKind) → List (Str × Addr) → List (Str × Addr)
  | [], acc => acc
  | (n, k) :: r, acc => if k == .free then cloFrom cells r ((n, (cells.lookup n).getD 0) :: acc) else cloFrom cells r acc

theorem closure_loop (env : Env) (f : Str × NameKind → List (Str × Addr) → Sem (ForInStep (List (Str × Addr))))
    (hf : ∀ n k c, f (n, k) c = if k == .free then (do let a ← cellOf env n; pure (.yield ((n, a) :: c))) else pure (.yield c)) :
    ∀ (names : List (Str × NameKind)) (acc : List (Str × Addr)), (∀ y ∈ names, y.2 = .free → ∃ c, env.cells.lookup y.1 = some c) → forIn names acc f = pure (cloFrom env.cells names acc)
  | [], acc, _ => by rw [List.forIn_nil]; rfl
  | (n, k) :: r, acc, h => by
    rw [List.forIn_cons, hf]
    have ih := fun acc => closure_loop env f hf r acc fun y hy => h y (List.mem_cons_of_mem _ hy)
    unfold cloFrom
    by_cases hk : (k == NameKind.free) = true
    · rw [if_pos hk, if_pos hk]
      obtain ⟨c, hc⟩ := h (n, k) List.mem_cons_self (by simpa using hk)
      have e : cellOf env n = pure c := by unfold cellOf; rw [hc]
      rw [e]
      have e2 : (env.cells.lookup n).getD 0 = c := by rw [hc]; rfl
      rw [e2]
      exact ih _
    · rw [if_neg hk, if_neg hk]
      exact ih _
theorem closure_ok {scope : Scope} {env : Env} (h : ∀ y ∈ scope.names, y.2 = .free → ∃ c, env.cells.lookup y.1 = some c) : closureFor scope env = pure (cloFrom env.cells scope.names []) := by
  simp only [closureFor]
  rw [closure_loop env _ (fun n k c => rfl) scope.names [] h]
  rfl

theorem mem_lookup {α : Type} : ∀ {l : List (Str × α)} {n : Str} {c : α}, (n, c) ∈ l → ∃ c', l.lookup n = some c'
  | (k, v) :: r, n, c, h => by
    rw [List.lookup_cons]
    cases hb : n == k with
    | true => exact ⟨_, rfl⟩
    | false =>
      rcases List.mem_cons.mp h with e | h
      · cases e; simp at hb
      · exact mem_lookup h

theorem cloFrom_mem {cells : List (Str × Addr)} : ∀ {names : List (Str × NameKind)} {acc : List (Str × Addr)} {n : Str} {c : Addr}, (n, c) ∈ cloFrom cells names acc → (n, c) ∈ acc ∨ ((n, .free) ∈ names ∧ c = (cells.lookup n).getD 0)
  | [], _, _, _, h => .inl h
  | (m, k) :: r, acc, n, c, h => by
    unfold cloFrom at h
    split at h
    · rename_i hk
      have hk : k = .free := by simpa using hk
      rcases cloFrom_mem h with h | ⟨h1, h2⟩
      · rcases List.mem_cons.mp h with e | h
        · cases e; exact .inr ⟨hk ▸ List.mem_cons_self, rfl⟩
        · exact .inl h
      · exact .inr ⟨List.mem_cons_of_mem _ h1, h2⟩
    · rcases cloFrom_mem h with h | ⟨h1, h2⟩
      · exact .inl h
      · exact .inr ⟨List.mem_cons_of_mem _ h1, h2⟩
theorem cloFrom_acc {cells : List (Str × Addr)} : ∀ {names : List (Str × NameKind)} {acc : List (Str × Addr)} {p : Str × Addr}, p ∈ acc → p ∈ cloFrom cells names acc
  | [], _, _, h => h
  | (m, k) :: r, acc, p, h => by
    unfold cloFrom
    split
    · exact cloFrom_acc (List.mem_cons_of_mem _ h)
    · exact cloFrom_acc h
theorem cloFrom_has {cells : List (Str × Addr)} : ∀ {names : List (Str × NameKind)} {acc : List (Str × Addr)} {n : Str}, (n, .free) ∈ names → (n, (cells.lookup n).getD 0) ∈ cloFrom cells names acc
  | (m, k) :: r, acc, n, h => by
    unfold cloFrom
    rcases List.mem_cons.mp h with e | h
    · cases e
      exact cloFrom_acc List.mem_cons_self
    · split
      · exact cloFrom_has h
      · exact cloFrom_has h

theorem cells_mem : ∀ {names : List (Str × NameKind)} {h : Heap} {acc : List (Str × Addr)} {x : Str} {c : Addr}, (x, c) ∈ cellsFrom h.objs.size names acc →
    (x, c) ∈ acc ∨ ((x, .cell) ∈ names ∧ h.objs.size ≤ c ∧ CellAt (pushCells h names) c none)
  | [], _, _, _, _, h => .inl h
  | (n, k) :: r, h, acc, x, c, hm => by
    unfold cellsFrom at hm
    unfold pushCells
    split at hm
    · rename_i hk
      rw [if_pos hk]
      have hk : k = .cell := by simpa using hk
      rw [← Heap.size_push h { cls := .type "cell", data := .cell none }] at hm
      rcases cells_mem hm with hm | ⟨h1, h2, h3⟩
      · rcases List.mem_cons.mp hm with e | hm
        · cases e
          exact .inr ⟨hk ▸ List.mem_cons_self, Nat.le_refl _, _, pushCells_keeps r _ _ _ (Heap.get?_push_size _ rfl), rfl⟩
        · exact .inl hm
      · rw [Heap.size_push] at h2
        exact .inr ⟨List.mem_cons_of_mem _ h1, Nat.le_of_succ_le h2, h3⟩
    · rename_i hk
      rw [if_neg hk]
      rcases cells_mem hm with hm | ⟨h1, h2, h3⟩
      · exact .inl hm
      · exact .inr ⟨List.mem_cons_of_mem _ h1, h2, h3⟩
theorem cells_acc : ∀ {names : List (Str × NameKind)} {n : Nat} {acc : List (Str × Addr)} {p : Str × Addr}, p ∈ acc → p ∈ cellsFrom n names acc
  | [], _, _, _, h => h
  | (m, k) :: r, n, acc, p, h => by
    unfold cellsFrom
    split
    · exact cells_acc (List.mem_cons_of_mem _ h)
    · exact cells_acc h
theorem cells_has : ∀ {names : List (Str × NameKind)} {n : Nat} {acc : List (Str × Addr)} {x : Str}, (x, .cell) ∈ names → ∃ c, (x, c) ∈ cellsFrom n names acc
  | (m, k) :: r, n, acc, x, h => by
    unfold cellsFrom
    rcases List.mem_cons.mp h with e | h
    · cases e
      exact ⟨n, cells_acc List.mem_cons_self⟩
    · split
      · exact cells_has h
      · exact cells_has h
theorem cells_inj : ∀ {names : List (Str × NameKind)} {h : Heap} {acc : List (Str × Addr)} {x y : Str} {c : Addr}, (∀ p ∈ acc, p.2 < h.objs.size) → (∀ x y c, (x, c) ∈ acc → (y, c) ∈ acc → x = y) →
    (x, c) ∈ cellsFrom h.objs.size names acc → (y, c) ∈ cellsFrom h.objs.size names acc → x = y
  | [], _, _, _, _, _, _, hi, h1, h2 => hi _ _ _ h1 h2
  | (n, k) :: r, h, acc, x, y, c, hl, hi, h1, h2 => by
    unfold cellsFrom at h1 h2
    split at h1
    · rename_i hk
      rw [if_pos hk] at h2
      rw [← Heap.size_push h { cls := .type "cell", data := .cell none }] at h1 h2
      refine cells_inj (h := h.push _) (fun p hp => ?_) (fun x y c a b => ?_) h1 h2
      · rw [Heap.size_push]
        rcases List.mem_cons.mp hp with rfl | hp
        · exact Nat.lt_succ_self _
        · exact Nat.lt_succ_of_lt (hl p hp)
      · rcases List.mem_cons.mp a with e | a <;> rcases List.mem_cons.mp b with e' | b
        · cases e; cases e'; rfl
        · cases e; exact absurd (hl _ b) (Nat.lt_irrefl _)
        · cases e'; exact absurd (hl _ a) (Nat.lt_irrefl _)
        · exact hi _ _ _ a b
    · rename_i hk
      rw [if_neg hk] at h2
      exact cells_inj hl hi h1 h2

theorem newEnv_comp {M : Model} {A : Around} {E : Value → Shared → Prop} {s : Shared} {scope : Scope} {globals : Addr} {closure : List (Str × Addr)} {qual : Str} {func : Option Addr} {code : Value} {around : Env} {builtins : Addr} {Q : Env → Shared → Prop}
    (h : Q (newEnv scope s.heap.objs.size globals (cellsFrom (s.heap.objs.size + 1) scope.names closure) qual func code (some around) builtins)
      { s with heap := pushCells (s.heap.push { cls := .type "dict", data := .dict #[] }) scope.names }) :
    wpAny M A (newFunctionEnv scope globals closure [] qual func code (some around) builtins) Q E s := by
  simp only [newFunctionEnv, Option.isSome_some, if_true]
  refine wpAny_bind (wpAny_alloc ?_)
  refine wpAny_bind (wpAny_layCells _ (fun n k c => rfl) scope.names closure _ _ ?_)
  rw [show ({ s with heap := s.heap.push { cls := .type "dict", data := .dict #[] } } : Shared).heap.objs.size = s.heap.objs.size + 1 from Heap.size_push ..]
  rw [List.forIn_nil]
  exact wpAny_bind (wpAny_pure (wpAny_pure h))

/-- every name of the written scope, in the scope that runs -/
theorem lookup_relS {sc : Scope} : ∀ {names : List (Str × NameKind)} {x : Str} {k : NameKind},
    (names.map fun (n, k) => if (k == NameKind.free && sc.kind == .function && sc.names.lookup n == some .cell) then (n, NameKind.cell) else (n, k)).lookup x = some k →
    ∃ k', names.lookup x = some k' ∧ (k = k' ∨ (k' = .free ∧ k = .cell))
  | [], _, _, h => by simp at h
  | (n, k₀) :: r, x, k, h => by
    have ih := @lookup_relS sc r x k
    have h' : List.lookup x ((if (k₀ == NameKind.free && sc.kind == .function && sc.names.lookup n == some .cell) = true then (n, NameKind.cell) else (n, k₀)) :: (r.map _)) = some k := h
    cases hx : x == n with
    | true =>
      simp only [List.lookup_cons, hx]
      by_cases hc : (k₀ == NameKind.free && sc.kind == .function && sc.names.lookup n == some .cell) = true
      · rw [if_pos hc] at h'
        simp only [List.lookup_cons, hx] at h'
        cases h'
        simp only [Bool.and_eq_true, beq_iff_eq] at hc
        exact ⟨k₀, rfl, .inr ⟨hc.1.1, rfl⟩⟩
      · rw [if_neg hc] at h'
        simp only [List.lookup_cons, hx] at h'
        cases h'
        exact ⟨_, rfl, .inl rfl⟩
    | false =>
      simp only [List.lookup_cons, hx]
      by_cases hc : (k₀ == NameKind.free && sc.kind == .function && sc.names.lookup n == some .cell) = true
      · rw [if_pos hc] at h'
        simp only [List.lookup_cons, hx] at h'
        exact ih h'
      · rw [if_neg hc] at h'
        simp only [List.lookup_cons, hx] at h'
        exact ih h'
/-- the names of a comprehension's block: its own (with their places in N), or captured -/
structure BlkOk (N : List Str) (sc scope : Scope) (own : List (Str × Nat)) : Prop where
  kind : scope.kind = .function
  uniq : ∀ y ∈ scope.names, scope.names.lookup y.1 = some y.2
  ix : ∀ p ∈ own, N[p.2]? = some p.1
  free : ∀ y ∈ scope.names, y.2 = .free → sc.names.lookup y.1 = some .cell ∨ sc.names.lookup y.1 = some .free
  own : ∀ y ∈ scope.names, y.2 = .local ∨ y.2 = .cell → y.1 ∈ own.map (·.1) ∨ y.1 ∉ N
/-- the slots of the block's own names forgotten -/
def wipe (σ : St) : List Nat → St
  | [] => σ
  | v :: vs => (wipe σ vs).set v none
theorem wipe_length (σ : St) : ∀ vs : List Nat, (wipe σ vs).length = σ.length
  | [] => rfl
  | v :: vs => by unfold wipe; rw [List.length_set, wipe_length σ vs]
theorem wipe_some {σ : St} {i : Nat} {x : V} : ∀ {vs : List Nat}, (wipe σ vs)[i]? = some (some x) → σ[i]? = some (some x) ∧ i ∉ vs
  | [], h => ⟨h, by simp⟩
  | v :: vs, h => by
    unfold wipe at h
    by_cases hi : v = i
    · subst hi
      by_cases hv : v < (wipe σ vs).length
      · rw [List.getElem?_set_self hv] at h; cases h
      · rw [List.getElem?_eq_none (by simpa using hv)] at h; cases h
    · rw [List.getElem?_set_ne hi] at h
      obtain ⟨h1, h2⟩ := wipe_some h
      exact ⟨h1, by simp only [List.mem_cons, not_or]; exact ⟨fun e => hi e.symm, h2⟩⟩

/-- the context of a block that starts at s, its iterator's objects at fp -/
abbrev Cx.blk (X : Cx) (s : Shared) (H : Hp) (scope : Scope) (cenv : Env) (fp : List Addr) : Cx := { X with s_0 := s, H_0 := H, env := cenv, outer := X.stack, ex := fp, fn := fun x => scope.names.lookup x == some .cell, pn := [], xe := fun _ _ => False }
section
variable {X : Cx} {pins : List (Addr × Obj)} {σ : St} {H : Hp} {s : Shared}
theorem block_start {scope : Scope} {own : List (Str × Nat)} {fp : List Addr} (I : Inv X pins σ H s) (ok : BlkOk X.N X.env.scope scope own) (hN : X.N.Nodup) (hfp : ∀ b ∈ fp, FpOk X pins H b ∧ b < s.heap.objs.size) :
    Inv (X.blk s H scope (compEnvC scope (cellsFrom (s.heap.objs.size + 1) scope.names (cloFrom X.env.cells scope.names [])) s.heap.objs.size X.env) fp) [] (wipe σ (own.map (·.2))) H { s with heap := pushCells (s.heap.push { cls := .type "dict", data := .dict #[] }) scope.names } := by
  have hfree : ∀ y ∈ scope.names, y.2 = .free → ∃ c, X.env.cells.lookup y.1 = some c := fun y hy e => by
    rcases ok.free y hy e with k | k
    · exact I.ok.has _ (.inl k)
    · exact I.ok.has _ (.inr k)
  generalize hcenv : compEnvC scope (cellsFrom (s.heap.objs.size + 1) scope.names (cloFrom X.env.cells scope.names [])) s.heap.objs.size X.env = cenv
  have kp : ∀ b o, s.heap.get? b = some o → (pushCells (s.heap.push { cls := .type "dict", data := .dict #[] }) scope.names).get? b = some o := fun b o e => pushCells_keeps _ _ _ _ (Heap.get?_push_of_some _ e)
  have hL : cenv.locals = s.heap.objs.size := by rw [← hcenv]; rfl
  have hcl : cenv.cells = cellsFrom (s.heap.objs.size + 1) scope.names (cloFrom X.env.cells scope.names []) := by rw [← hcenv]; rfl
  have hsc : cenv.scope = relS scope X.env.scope := by rw [← hcenv]; rfl
  rw [← Heap.size_push s.heap { cls := .type "dict", data := .dict #[] }] at hcl
  have cm : ∀ {y c}, (y, c) ∈ cloFrom X.env.cells scope.names [] → X.env.cells.lookup y = some c ∧ c < s.heap.objs.size := fun {y c} hm => by
    rcases cloFrom_mem hm with hm | ⟨h1, rfl⟩
    · cases hm
    · obtain ⟨c, hc⟩ := hfree _ h1 rfl
      rw [hc]
      obtain ⟨w, z⟩ := I.cell _ _ hc
      exact ⟨rfl, z.lt⟩
  have mem : ∀ {y c}, cenv.cells.lookup y = some c → (X.env.cells.lookup y = some c ∧ c < s.heap.objs.size) ∨ (s.heap.objs.size + 1 ≤ c ∧ CellAt (pushCells (s.heap.push { cls := .type "dict", data := .dict #[] }) scope.names) c none) := fun {y c} e => by
    rw [hcl] at e
    rcases cells_mem (PySem.mem_of_lookup e) with hm | ⟨_, h2, h3⟩
    · exact .inl (cm hm)
    · rw [Heap.size_push] at h2; exact .inr ⟨h2, h3⟩
  have look : ∀ {y}, scope.names.lookup y = some .free → ∃ c, cenv.cells.lookup y = some c ∧ X.env.cells.lookup y = some c := fun {y} hl => by
    have hy : (y, NameKind.free) ∈ scope.names := PySem.mem_of_lookup hl
    obtain ⟨c', e'⟩ := mem_lookup (cells_acc (names := scope.names) (n := (s.heap.push { cls := .type "dict", data := .dict #[] }).objs.size) (cloFrom_has (cells := X.env.cells) (acc := []) hy))
    rw [← hcl] at e'
    refine ⟨c', e', ?_⟩
    rw [hcl] at e'
    rcases cells_mem (PySem.mem_of_lookup e') with hm | ⟨h1, _, _⟩
    · exact (cm hm).1
    · have := ok.uniq _ h1
      rw [hl] at this; cases this
  have okB : (X.blk s H scope cenv fp).Ok := by
    refine ⟨I.ok.mod, by show cenv.scope.kind = _; rw [hsc]; exact ok.kind, by show cenv.globals = _; rw [← hcenv]; exact I.ok.glob, by show cenv.builtins = _; rw [← hcenv]; exact I.ok.blt, by show s.heap.objs.size ≤ cenv.locals; rw [hL]; exact Nat.le_refl _,
      fun y z c e1 e2 => ?_, fun y hy => ?_, fun y c z e => ?_, I.ok.hd, I.ok.frames, .inl rfl, fun b hb => ⟨?_, fun y c e z => ?_⟩, I.bs, Nat.le_trans I.ok.bsz I.sz, fun b o e hb => ?_, fun b hb z => ?_, I.stack, I.stkFree⟩
    · have e1 : cenv.cells.lookup y = some c := e1
      have e2 : cenv.cells.lookup z = some c := e2
      rw [hcl] at e1 e2
      refine cells_inj (fun p hp => ?_) (fun y z c a b => I.ok.inj y z c (cm a).1 (cm b).1) (PySem.mem_of_lookup e1) (PySem.mem_of_lookup e2)
      rw [Heap.size_push]
      exact Nat.lt_succ_of_lt (cm (y := p.1) (c := p.2) hp).2
    · show ∃ c, cenv.cells.lookup y = some c
      have key : ∀ k, cenv.kindOf y = some k → (k = .cell ∨ k = .free) → ∃ c, cenv.cells.lookup y = some c := fun k hk hk' => by
        unfold Env.kindOf at hk
        rw [hsc] at hk
        obtain ⟨k', e, r⟩ := lookup_relS hk
        have : k' = .cell ∨ k' = .free := by
          rcases r with rfl | ⟨rfl, _⟩
          · exact hk'
          · exact .inr rfl
        rcases this with rfl | rfl
        · obtain ⟨c, hm⟩ := cells_has (n := (s.heap.push { cls := .type "dict", data := .dict #[] }).objs.size) (acc := cloFrom X.env.cells scope.names []) (PySem.mem_of_lookup e)
          obtain ⟨c', e'⟩ := mem_lookup hm
          exact ⟨c', by rw [hcl]; exact e'⟩
        · obtain ⟨c, h1, _⟩ := look e
          exact ⟨c, h1⟩
      rcases hy with hy | hy
      · exact key _ hy (.inl rfl)
      · exact key _ hy (.inr rfl)
    · have z : (scope.names.lookup y == some NameKind.cell) = true := z
      have z : scope.names.lookup y = some .cell := by simpa using z
      have e : cenv.cells.lookup y = some c := e
      rw [hcl] at e
      rcases cells_mem (PySem.mem_of_lookup e) with hm | ⟨_, h2, _⟩
      · rcases cloFrom_mem hm with hm | ⟨h1, _⟩
        · cases hm
        · have q := ok.uniq _ h1
          rw [z] at q; cases q
      · rw [Heap.size_push] at h2
        exact Nat.le_of_succ_le h2
    · show b ≠ cenv.locals
      rw [hL]; exact Nat.ne_of_lt (hfp b hb).2
    · have e : cenv.cells.lookup y = some c := e
      rcases mem e with ⟨h1, _⟩ | ⟨h1, _⟩
      · exact (hfp b hb).1.2.2.2.2.1 y c h1 z
      · have h2 : s.heap.objs.size + 1 ≤ b := by rw [← z]; exact h1
        exact absurd (Nat.lt_of_lt_of_le (hfp b hb).2 (Nat.le_of_succ_le h2)) (Nat.lt_irrefl _)
    · rcases (hfp b hb).1.2.2.2.1 with z | z
      · exact I.ok.noex b o e z
      · exact absurd (Nat.lt_of_lt_of_le (Heap.lt_size e) (Nat.le_trans I.ok.bsz z)) (Nat.lt_irrefl _)
    · rcases List.mem_cons.mp (I.stkSub b z) with z | z
      · exact (hfp b hb).1.2.1 z
      · exact (hfp b hb).1.2.2.1 z
  refine ⟨okB, rfl, I.bare, Un.kept kp, ⟨fun _ => none, ?_, fun i y av e1 e2 e3 => ?_⟩, fun y c e => ?_, ?_, fun y c e => ?_, fun p hp => ?_, I.hok.kept kp, by rw [wipe_length]; exact I.len⟩
  · show Heap.Ns _ cenv.locals _
    rw [hL]
    exact Heap.Ns.keeps (Heap.Ns.new ..) fun b o e => pushCells_keeps _ _ _ _ e
  · obtain ⟨e2, hne⟩ := wipe_some e2
    have hfr : scope.names.lookup y = some .free ∧ (cenv.kindOf y = some .cell ∨ cenv.kindOf y = some .free) := by
      have key : ∀ k, cenv.scope.names.lookup y = some k → k = .local ∨ k = .cell ∨ k = .free → scope.names.lookup y = some .free ∧ (cenv.kindOf y = some .cell ∨ cenv.kindOf y = some .free) := fun k hk hk' => by
        have hk0 := hk
        rw [hsc] at hk
        obtain ⟨k', e, r⟩ := lookup_relS hk
        have no : ¬ (k' = .local ∨ k' = .cell) := fun hh => by
          rcases ok.own _ (PySem.mem_of_lookup e) hh with e' | e'
          · obtain ⟨p, hp, hpy⟩ := List.mem_map.mp e'
            have e3 := ok.ix p hp
            have : p.1 = y := hpy
            rw [this] at e3
            exact hne (List.mem_map.mpr ⟨p, hp, nodup_ix hN e3 e1⟩)
          · exact e' (List.mem_of_getElem? e1)
        rcases r with rfl | ⟨rfl, rfl⟩
        · rcases hk' with rfl | rfl | rfl
          · exact absurd (.inl rfl) no
          · exact absurd (.inr rfl) no
          · exact ⟨e, .inr hk0⟩
        · exact ⟨e, .inl hk0⟩
      have e3 : Vis cenv.scope y := e3
      rcases e3 with e3 | e3 | e3
      · exact key _ e3 (.inl rfl)
      · exact key _ e3 (.inr (.inl rfl))
      · exact key _ e3 (.inr (.inr rfl))
    obtain ⟨m, hn, hl⟩ := I.loc
    have hvis : Vis X.env.scope y := (ok.free _ (PySem.mem_of_lookup hfr.1) rfl).elim (fun k => .inr (.inl k)) (fun k => .inr (.inr k))
    obtain ⟨w, r, q⟩ := hl i y av e1 e2 hvis
    refine ⟨w, r, .inr ⟨hfr.2, ?_⟩⟩
    obtain ⟨c, h1, h2⟩ := look hfr.1
    rcases q with ⟨k, _⟩ | ⟨_, c', e', z⟩
    · have k : X.env.scope.names.lookup y = some .local := k
      rcases ok.free _ (PySem.mem_of_lookup hfr.1) rfl with k' | k' <;> rw [show X.env.scope.names.lookup y = _ from k'] at k <;> cases k
    · rw [h2] at e'; cases e'
      exact ⟨c, h1, z.keeps kp⟩
  · have e : cenv.cells.lookup y = some c := e
    rcases mem e with ⟨h1, _⟩ | ⟨_, z⟩
    · obtain ⟨w, z⟩ := I.cell y c h1
      exact ⟨w, z.keeps kp⟩
    · exact ⟨_, z⟩
  · show H cenv.locals = none
    rw [hL]; exact I.hok.fresh (Nat.le_refl _)
  · have e : cenv.cells.lookup y = some c := e
    rcases mem e with ⟨h1, _⟩ | ⟨h1, _⟩
    · exact I.freeC y c h1
    · exact I.hok.fresh (Nat.le_of_succ_le h1)
  · exact absurd (show p ∈ ([] : List (Addr × Obj)) ++ [] from hp) (by simp)

/-- an item appended to a tracked list -/
theorem app_ok {E : Value → Shared → Prop} {D : Addr} {xs : List V} {y : V} {v : Value} {Q : Value → Shared → Prop} (I : Inv X pins σ H s) (hD : H D = some (.lst xs)) (hz : xs.length < sizeLine) (r : RelV y v)
    (h : ∀ s', Inv X pins σ (upd H D (.lst (xs ++ [y]))) s' → Q .none s') : wpAny (model X.prog X.w) X.A (call (.builtin "list.append") [.ref D, v]) Q E s := by
  obtain ⟨hz', its, n, ri, e⟩ := I.hok D _ hD
  have hl := ri.length
  refine append_at (hsz := by rw [List.size_toArray]; omega) e fun h' sb ho' => ?_
  refine h { s with heap := h' } (I.write (t' := s.toks) (by rw [hD]; trivial) (.inl rfl) (fun b u hb q => (sb.2 b hb).trans q) ⟨_, ho'⟩ ⟨by rw [List.length_append]; exact hz, its ++ [v], n + 1, ri.append (.cons r .nil), ?_⟩)
  rw [ho']
  simp

/-- a clause's tests -/
def PTs (X : Cx) (ifs : List Expr) (t : TT) : Prop :=
  ∀ (pins : List (Addr × Obj)) (s : Shared) (σ : St) (H : Hp) (Q : Bool → Hp → Prop), Inv X pins σ H s → t σ H Q →
    wpAny (model X.prog X.w) X.A (forIn ifs true fun c r => if r = true then do let ok ← isTrue c X.env (eval c X.env); pure (ForInStep.yield ok) else pure (ForInStep.yield r)) (TP X pins σ Q) X.xe s
def tYes : TT := fun _ H Q => Q true H
theorem pts_nil : PTs X [] tYes := fun _ _ _ H _ I h => wpAny_tests_nil ⟨H, I, h⟩
theorem pts_one {c : Expr} {t : TT} (h : PT X c t) : PTs X [c] t := fun pins s σ H Q I hw => wpAny_tests_one (h pins s σ H Q I hw)
end

theorem thnF {α : Type} {t : Sem α} {Q Q' : α → Shared → Prop} {M : Model} {A : Around} {E : Value → Shared → Prop} {s : Shared} (h : wpAny M A t Q (fun _ _ => False) s) (hQ : ∀ a s, Q a s → Q' a s) : wpAny M A t Q' E s := wpAny_mono h hQ fun _ _ z => False.elim z

/-- the loop of a list comprehension's block, the target of any form (codeAny_compLoop_tests asks a target that no tuple goes to; statement and proof follow it, PyProof/CompMap.lean:41-61, with the step letOwnedTupleGo kept) -/
theorem compLoop_any {prog : Program} {w : World} {A : Around} {R : Result → Shared → Prop} {s : Shared} {elt target iter : Expr} {ifs : List Expr} {scope : Scope} {pos : Pos} {it acc : Value} {env : Env} (I : Nat → Shared → Prop)
    (turn : ∀ n s, I n s → wpAny (model prog w) A (pyNext it) (fun r s₁ => match r with
      | none => R (.ok .next) s₁
      | some v => wpAny (model prog w) A (letOwnedTupleGo target it v) (fun _ s₁' => wpAny (model prog w) A (assign target env v) (fun _ s₂ =>
          wpAny (model prog w) A (forIn ifs true fun c r => if r = true then do let ok ← isTrue c env (eval c env); pure (ForInStep.yield ok) else pure (ForInStep.yield r)) (fun ok s₃ =>
            if ok = true then wpAny (model prog w) A (eval elt env) (fun x s₄ =>
              wpAny (model prog w) A (call (.builtin "list.append") [acc, x]) (fun _ s₅ => ∃ m, m < n ∧ I m s₅) (notedBy (model prog w) A env fun e s' => R (.error e) s') s₄) (notedBy (model prog w) A env fun e s' => R (.error e) s') s₃
            else ∃ m, m < n ∧ I m s₃) (notedBy (model prog w) A env fun e s' => R (.error e) s') s₂) (notedBy (model prog w) A env fun e s' => R (.error e) s') s₁') (notedBy (model prog w) A env fun e s' => R (.error e) s') s₁) (notedBy (model prog w) A env fun e s' => R (.error e) s') s)
    (n : Nat) (h : I n s) :
    codeAny (model prog w) A (.compLoop (.ListComp elt [⟨target, iter, ifs, 0⟩] scope pos) 0 it acc env) R s := by
  refine codeAny_loop rfl I (fun n s hI => ?_) n h
  show wpAny _ A ((compTurn (.ListComp elt [⟨target, iter, ifs, 0⟩] scope pos) 0 it acc env).onRaise (fun x => do noteFrame x env; theTreesLotGoes x)) _ _ s
  refine wpAny_noted ?_
  rw [compTurn_list]
  refine wpAny_bind (wpAny_standAt (wpAny_bind (wpAny_mono (turn n s hI) (fun r s₁ h₁ => ?_) fun _ _ h' => h')))
  cases r with
  | none => exact wpAny_pure h₁
  | some v =>
    refine wpAny_bind (wpAny_mono h₁ (fun _ s₁' h₁' => ?_) fun _ _ h' => h')
    refine wpAny_bind (wpAny_mono h₁' (fun _ s₂ h₂ => wpAny_bind (wpAny_mono h₂ (fun ok s₃ h₃ => ?_) fun _ _ h' => h')) fun _ _ h' => h')
    cases ok with
    | false => exact wpAny_pure ⟨rfl, h₃⟩
    | true =>
      exact wpAny_bind (wpAny_bind (wpAny_mono h₃ (fun x s₄ h₄ => wpAny_bind (wpAny_mono h₄ (fun _ s₅ h₅ => wpAny_pure (wpAny_pure ⟨rfl, h₅⟩)) fun _ _ h' => h')) fun _ _ h' => h'))

section
variable {X : Cx}
/-- [elt for target in iter if ..]: D the new list; W by the turn and a measure, Nx what a turn is to reach -/
def tLc (wi : TI) (g : TG) (tt : TT) (te : TE) (vs : List Nat) : TE := fun σ H Q => wi σ H fun J H1 => ∀ D, H1 D = none → ∃ W : Nat → Nat → Hp → Prop, (∃ m, W 0 m (upd H1 D (.lst []))) ∧ ∀ i m H, W i m H →
  (J.stop i H ∧ Q (.ref D) H) ∨ (J.go i H ∧ ∃ Nx : Hp → Prop, (∀ H', Nx H' → ∃ m', m' < m ∧ W (i + 1) m' H') ∧ ∀ x H', J.yld i H x H' → g x (wipe σ vs) H' fun σ2 H2 => wipe σ2 vs = wipe σ vs ∧ tt σ2 H2 fun b H3 =>
    if b = true then te σ2 H3 fun y H4 => ∃ acc, H4 D = some (.lst acc) ∧ acc.length < sizeLine ∧ Nx (upd H4 D (.lst (acc ++ [y]))) else Nx H3)
theorem lc_core {pins : List (Addr × Obj)} {s : Shared} {σ : St} {H : Hp} {Q : VK} {elt tg iter : Expr} {ifs : List Expr} {scope : Scope} {own : List (Str × Nat)} {pos pos' : Pos} {wi : TI} {g : TG} {tt : TT} {te : TE} {use : Option (Value → Sem Unit)} {Qf : Value → Shared → Prop}
    (hc : X.calm = true) (hN : X.N.Nodup) (I : Inv X pins σ H s) (hi : PI X tg iter wi) (ok : BlkOk X.N X.env.scope scope own)
    (hg : ∀ (s : Shared) (H : Hp) (C : Addr) (cl : List (Str × Addr)) (fp : List Addr), PG (X.blk s H scope (compEnvC scope cl C X.env) fp) tg g) (ht : ∀ (s : Shared) (H : Hp) (C : Addr) (cl : List (Str × Addr)) (fp : List Addr), PTs (X.blk s H scope (compEnvC scope cl C X.env) fp) ifs tt)
    (he : ∀ (s : Shared) (H : Hp) (C : Addr) (cl : List (Str × Addr)) (fp : List Addr), PE (X.blk s H scope (compEnvC scope cl C X.env) fp) elt te) (hs : ∀ x, foldedSetIterable iter X.env x = pure x)
    (h : tLc wi g tt te (own.map (·.2)) σ H Q)
    (hRR : ∀ D C s' m H', Inv X pins σ H' s' → Q (.ref D) H' → s'.heap.Ns C m → FpOk X pins H' C → compPost (model X.prog X.w) X.A X.xe use Qf (.ref D) C (.ok .next) s') :
    wpAny (model X.prog X.w) X.A (comprehension (.ListComp elt [⟨tg, iter, ifs, 0⟩] scope pos) scope X.env pos' (newList []) false (eval iter X.env) use) Qf X.xe s := by
  have hfree : ∀ y ∈ scope.names, y.2 = .free → ∃ c, X.env.cells.lookup y.1 = some c := fun y hy e => by
    rcases ok.free y hy e with k | k
    · exact I.ok.has _ (.inl k)
    · exact I.ok.has _ (.inr k)
  refine wpAny_comprehension_free (use := use) rfl hs (closure_ok hfree) ok.kind (fun y hy e => by rw [ok.uniq y hy, e])
    (thn (hi pins s σ H _ I h) fun xv s1 hx => thn hx fun itv s2 h2 => ?_)
  obtain ⟨it, fp, tn, J, H2, e, I2, T, st2, f2, q⟩ := h2
  subst e
  refine wpAny_newObj_type (newEnv_comp ?_) (by show 0 ≤ sizeLine; decide)
  generalize hD : s2.heap.objs.size = D
  have hDn : H2 D = none := I2.hok.fresh (Nat.le_of_eq hD)
  obtain ⟨W, ⟨m0, w0⟩, turn⟩ := q D hDn
  -- the new list
  generalize hs3 : ({ s2 with heap := s2.heap.push { cls := .type "list", data := .seq ([] : List Value).toArray } } : Shared) = s3
  have I3 : Inv X pins σ (upd H2 D (.lst [])) s3 := by
    rw [← hs3]
    refine I2.laid (t' := s2.toks) (fun b o e => Heap.get?_push_of_some _ e) (Nat.le_of_eq hD) ⟨Nat.zero_le _, [], 0, .nil, ?_⟩
    rw [← hD]
    exact Heap.get?_push_size _ rfl
  have h3 : s3.heap = s2.heap.push { cls := .type "list", data := .seq ([] : List Value).toArray } := by rw [← hs3]
  have sz : ∀ b ∈ fp, b < s2.heap.objs.size := fun b hb => by
    obtain ⟨o, e, _⟩ := T.obj _ _ st2 b hb
    exact Heap.lt_size e
  have f3 : ∀ b ∈ fp, FpOk X pins (upd H2 D (.lst [])) b ∧ b < s3.heap.objs.size := fun b hb => by
    have hlt := sz b hb
    refine ⟨⟨?_, (f2 b hb).2⟩, by rw [h3, Heap.size_push]; exact Nat.lt_succ_of_lt hlt⟩
    rw [upd_ne (by rw [← hD]; exact Nat.ne_of_lt hlt)]
    exact (f2 b hb).1
  have st3 : tn 0 s3.heap := T.keep _ _ _ st2 fun b _ o e => by rw [h3]; exact Heap.get?_push_of_some _ e
  have I4 := block_start I3 ok hN f3
  have pg := hg s3 (upd H2 D (.lst [])) s3.heap.objs.size (cellsFrom (s3.heap.objs.size + 1) scope.names (cloFrom X.env.cells scope.names [])) fp
  have pt := ht s3 (upd H2 D (.lst [])) s3.heap.objs.size (cellsFrom (s3.heap.objs.size + 1) scope.names (cloFrom X.env.cells scope.names [])) fp
  have pe := he s3 (upd H2 D (.lst [])) s3.heap.objs.size (cellsFrom (s3.heap.objs.size + 1) scope.names (cloFrom X.env.cells scope.names [])) fp
  show codeAny _ _ (.compStart (.ListComp elt [⟨tg, iter, ifs, 0⟩] scope pos) 0 (.ref it) (.ref D) (compEnvC scope (cellsFrom (s3.heap.objs.size + 1) scope.names (cloFrom X.env.cells scope.names [])) s3.heap.objs.size X.env)) (compPost (model X.prog X.w) X.A X.xe use Qf (.ref D) s3.heap.objs.size) { s3 with heap := pushCells (s3.heap.push { cls := .type "dict", data := .dict #[] }) scope.names }
  have nfp : ∀ b ∈ fp, (upd H2 D (.lst [])) b = none := fun b hb => (f3 b hb).1.1
  generalize hce : compEnvC scope (cellsFrom (s3.heap.objs.size + 1) scope.names (cloFrom X.env.cells scope.names [])) s3.heap.objs.size X.env = ce at I4 pg pt pe ⊢
  have cL : ce.locals = s3.heap.objs.size := by subst hce; rfl
  generalize hH3 : upd H2 D (.lst []) = H3 at I3 I4 pg pt pe w0 nfp f3
  generalize hs4 : ({ s3 with heap := pushCells (s3.heap.push { cls := .type "dict", data := .dict #[] }) scope.names } : Shared) = s4 at I4 ⊢
  have st4 : tn 0 s4.heap := T.keep _ _ _ st3 fun b _ o e => by rw [← hs4]; exact pushCells_keeps _ _ _ _ (Heap.get?_push_of_some _ e)
  have stat : ∀ {σ' : St} {H' : Hp} {s' : Shared}, Inv (X.blk s3 H3 scope ce fp) [] σ' H' s' → (∀ b ∈ fp, H' b = none) → ∀ b ∈ fp, FpOk (X.blk s3 H3 scope ce fp) [] H' b := fun {σ' H' s'} I' hn b hb =>
    ⟨hn b hb, (I'.ok.exf b hb).1, I'.ok.exfs b hb, .inl hb, fun x c e => (I'.ok.exf b hb).2 x c e, fun p hp => absurd (show p ∈ ([] : List (Addr × Obj)) ++ [] from hp) (by simp)⟩
  have loop : codeAny (model X.prog X.w) X.A (.compLoop (.ListComp elt [⟨tg, iter, ifs, 0⟩] scope pos) 0 (.ref it) (.ref D) ce) (compPost (model X.prog X.w) X.A X.xe use Qf (.ref D) s3.heap.objs.size) s4 := by
    refine compLoop_any (fun n s' => ∃ i H', Inv (X.blk s3 H3 scope ce fp) [] (wipe σ (own.map (·.2))) H' s' ∧ tn i s'.heap ∧ (∀ b ∈ fp, H' b = none) ∧ W i n H') ?_ m0 ⟨0, H3, I4, st4, nfp, w0⟩
    rintro n s5 ⟨i, H5, I5, st5, n5, w5⟩
    rcases turn i n H5 w5 with ⟨stop, qq⟩ | ⟨go, Nx, hNx, step⟩
    · have td := T.done (X.blk s3 H3 scope ce fp) rfl rfl rfl hc i [] s5 _ H5 (fun _ _ => False) I5 (stat I5 n5) st5 stop
      refine thnF td fun r s6 ⟨hr, I6⟩ => ?_
      subst hr
      -- back in the def's context
      have I7 : Inv X pins σ H5 s6 := I3.call' (ch := fp) I6.os I6.base I6.hok I6.bare fun b hb => ⟨(f3 b hb).1.2.2.2.1, (f3 b hb).1.2.1, (f3 b hb).1.2.2.2.2.1, (f3 b hb).1.2.2.2.2.2⟩
      have nC : H5 s3.heap.objs.size = none := by
        have z : H5 ce.locals = none := I6.free
        rw [cL] at z
        exact z
      obtain ⟨m, hn, _⟩ := I6.loc
      have hn : s6.heap.Ns ce.locals m := hn
      rw [cL] at hn
      exact hRR D s3.heap.objs.size s6 m H5 I7 qq hn (I3.fpOk (Nat.le_refl _) nC)
    · have ti := T.item (X.blk s3 H3 scope ce fp) rfl rfl rfl hc i [] s5 _ H5 (fun _ _ => False) I5 (stat I5 n5) st5 go
      refine thnF ti fun r s6 ⟨u, hr, h6⟩ => ?_
      subst hr
      refine thnF h6 fun _ s7 ⟨x, H7, I7, r7, y7, st7, n7⟩ => ?_
      have I7' := I7.pinned (stat I7 n7) (T.obj _ _ st7)
      refine thnF (pg _ s7 _ H7 x u _ I7' r7 (step x H7 y7)) fun _ s8 ⟨σ8, H8, I8, hw8, q8⟩ => ?_
      refine thnF (pt _ s8 σ8 H8 _ I8 q8) fun b s9 ⟨H9, I9, q9⟩ => ?_
      -- the turn's end
      have fin : ∀ {s' : Shared} {H' : Hp}, Inv (X.blk s3 H3 scope ce fp) ([] ++ pinsAt fp s7.heap) σ8 H' s' → Nx H' → ∃ m, m < n ∧ ∃ i H', Inv (X.blk s3 H3 scope ce fp) [] (wipe σ (own.map (·.2))) H' s' ∧ tn i s'.heap ∧ (∀ b ∈ fp, H' b = none) ∧ W i m H' := fun {s' H'} I' nx => by
        obtain ⟨m', hm, w'⟩ := hNx H' nx
        have pin' : ∀ b ∈ fp, ∀ o, s7.heap.get? b = some o → s'.heap.get? b = some o ∧ H' b = none := fun b hb o e =>
          let z := I'.pin (b, o) (List.mem_append_right _ (List.mem_append_right _ (mem_pinsAt hb e)))
          ⟨z.1, z.2.1⟩
        have hl : (wipe σ (own.map (·.2))).length = σ8.length := by rw [← hw8, wipe_length]
        refine ⟨m', hm, i + 1, H', (I'.unpinned (pins := [])).weak hl (fun j v e => ?_), T.keep _ _ _ st7 fun b hb o e => (pin' b hb o e).1, fun b hb => ?_, w'⟩
        · rw [← hw8] at e
          exact (wipe_some e).1
        · obtain ⟨o, e, _⟩ := T.obj _ _ st7 b hb
          exact (pin' b hb o e).2
      cases b with
      | false =>
        simp only [Bool.false_eq_true, if_false] at q9 ⊢
        exact fin I9 q9
      | true =>
        simp only [if_true] at q9 ⊢
        refine thnF (pe _ s9 σ8 H9 _ I9 q9) fun z s10 ⟨yv, H10, I10, r10, acc, hD10, hz10, nx⟩ => ?_
        exact app_ok (X := X.blk s3 H3 scope ce fp) I10 hD10 hz10 r10 fun s11 I11 => fin I11 nx
  exact codeAny_compStart_list loop (T.self X.A 0 _ _ _ st4 loop)
/-- as a value -/
theorem pe_lc {elt tg iter : Expr} {ifs : List Expr} {scope : Scope} {own : List (Str × Nat)} {pos : Pos} {wi : TI} {g : TG} {tt : TT} {te : TE} (hc : X.calm = true) (hN : X.N.Nodup) (hi : PI X tg iter wi) (ok : BlkOk X.N X.env.scope scope own)
    (hg : ∀ (s : Shared) (H : Hp) (C : Addr) (cl : List (Str × Addr)) (fp : List Addr), PG (X.blk s H scope (compEnvC scope cl C X.env) fp) tg g) (ht : ∀ (s : Shared) (H : Hp) (C : Addr) (cl : List (Str × Addr)) (fp : List Addr), PTs (X.blk s H scope (compEnvC scope cl C X.env) fp) ifs tt)
    (he : ∀ (s : Shared) (H : Hp) (C : Addr) (cl : List (Str × Addr)) (fp : List Addr), PE (X.blk s H scope (compEnvC scope cl C X.env) fp) elt te) (hs : ∀ x, foldedSetIterable iter X.env x = pure x := by intro _; rfl) :
    PE X (.ListComp elt [⟨tg, iter, ifs, 0⟩] scope pos) (tLc wi g tt te (own.map (·.2))) := by
  intro pins s σ H Q I h
  rw [eval_ListComp]
  refine lc_core hc hN I hi ok hg ht he hs h fun D C s' m H' I' q hn f => ⟨m, hn, fun h'' sb => ?_⟩
  obtain ⟨f0, f1, f2, f3, f4, f5⟩ := f
  exact ⟨.ref D, H', I'.turned (t' := s'.toks) (fun b o hb e => (sb.2 b hb).trans e) f0 f1 f3 f4 f5, rfl, q⟩
/-- name = [..] on one line, the name a local -/
theorem ps_setLc {i : Nat} {y : Str} {py : Pos} {elt tg iter : Expr} {ifs : List Expr} {scope : Scope} {own : List (Str × Nat)} {pos spos : Pos} {wi : TI} {g : TG} {tt : TT} {te : TE} (hc : X.calm = true) (hN : X.N.Nodup) (hy : X.N[i]? = some y) (hyl : X.env.scope.names.lookup y = some .local)
    (hsw : swapsWith (.ListComp elt [⟨tg, iter, ifs, 0⟩] scope pos) (some (.Name y py)) spos.line X.env = pure true) (hi : PI X tg iter wi) (ok : BlkOk X.N X.env.scope scope own)
    (hg : ∀ (s : Shared) (H : Hp) (C : Addr) (cl : List (Str × Addr)) (fp : List Addr), PG (X.blk s H scope (compEnvC scope cl C X.env) fp) tg g) (ht : ∀ (s : Shared) (H : Hp) (C : Addr) (cl : List (Str × Addr)) (fp : List Addr), PTs (X.blk s H scope (compEnvC scope cl C X.env) fp) ifs tt)
    (he : ∀ (s : Shared) (H : Hp) (C : Addr) (cl : List (Str × Addr)) (fp : List Addr), PE (X.blk s H scope (compEnvC scope cl C X.env) fp) elt te) (hs : ∀ x, foldedSetIterable iter X.env x = pure x := by intro _; rfl) :
    PS X (.Assign [.Name y py] (.ListComp elt [⟨tg, iter, ifs, 0⟩] scope pos) spos) (tAsg (tLc wi g tt te (own.map (·.2))) (gName i)) := by
  intro pins s σ H D I h
  rw [exec_Assign_Name_used _ _ _ _ hsw]
  refine wpAny_bind (wpAny_standAt (wpAny_bind ?_))
  show wpAny _ X.A (do let _ ← comprehension (.ListComp elt [⟨tg, iter, ifs, 0⟩] scope pos) scope X.env (firstIterPos [⟨tg, iter, ifs, 0⟩] pos) (newList []) false (eval iter X.env) (some (assign (.Name y py) X.env))) _ _ s
  have h : tLc wi g tt te (own.map (·.2)) σ H (fun x H1 => gName i x σ H1 D.nx) := h
  refine wpAny_bind (thn (lc_core (Qf := fun _ s' => SP X pins D .next s') hc hN I hi ok hg ht he hs h fun L C s' m H' I' q hn f => ?_) fun _ s' hq => wpAny_pure (wpAny_pure hq))
  show wpAny _ _ (assign (.Name y py) X.env (.ref L)) _ _ _
  refine wpAny_assign_Name (store_ok2 (v := V.ref L) I' hN hy (.inl hyl) rfl (fun s2 I2 ⟨a, sb, ha⟩ => ?_) (.inr hyl))
  obtain ⟨f0, f1, f2, f3, f4, f5⟩ := f
  have haC : C ≠ a := by
    rcases ha with z | z
    · rw [z]; exact f1
    · exact fun e => f4 y a z e.symm
  refine ⟨m, hn.sameBut sb haC, fun h3 sb3 => ?_⟩
  exact ⟨_, H', I2.turned (t' := s2.toks) (fun b o hb e => (sb3.2 b hb).trans e) f0 f1 f3 f4 f5, q⟩
end

/-! ### the forms one uses -/
end L2

namespace L2
open PySem PySem.Spec PyProof.Rows

section
variable {prog : Program} {w : World} {A : Around} {R : Result → Shared → Prop} {s : Shared} {elt t0 i0 t1 i1 : Expr} {ifs0 ifs1 : List Expr} {scope : Scope} {pos : Pos} {it acc : Value} {env : Env}
end

section
variable {X : Cx}
end
end L2

namespace L2
open PySem PySem.Spec PyProof.Rows

/-! ### lists of pairs as tables -/
section
variable {κ : Type} [DecidableEq κ]
def valV (kvs : List (κ × V)) (k : κ) : Option V := (kvs.find? fun kv => decide (kv.1 = k)).map (·.2)
/-- in its place, or at the end -/
def putK (kvs : List (κ × V)) (k : κ) (v : V) : List (κ × V) :=
  if (kvs.any fun kv => decide (kv.1 = k)) = true then kvs.map (fun kv => if kv.1 = k then (kv.1, v) else kv) else kvs ++ [(k, v)]
def dropK (kvs : List (κ × V)) (k : κ) : List (κ × V) := kvs.filter fun kv => decide (kv.1 ≠ k)

theorem valV_pos {p : κ × V} {r : List (κ × V)} {k : κ} (e : p.1 = k) : valV (p :: r) k = some p.2 := by simp [valV, List.find?_cons, e]
theorem valV_neg {p : κ × V} {r : List (κ × V)} {k : κ} (e : ¬ p.1 = k) : valV (p :: r) k = valV r k := by simp [valV, List.find?_cons, e]
theorem valV_any (k : κ) : ∀ kvs : List (κ × V), (kvs.any fun kv => decide (kv.1 = k)) = (valV kvs k).isSome
  | [] => rfl
  | p :: r => by
    rw [List.any_cons]
    by_cases e : p.1 = k
    · simp only [valV_pos e, decide_eq_true e, Bool.true_or, Option.isSome_some]
    · rw [valV_neg e, decide_eq_false e, Bool.false_or]; exact valV_any k r
theorem length_putK (kvs : List (κ × V)) (k : κ) (v : V) : (putK kvs k v).length ≤ kvs.length + 1 := by
  unfold putK
  split
  · rw [List.length_map]; omega
  · rw [List.length_append, List.length_cons, List.length_nil]; omega
theorem RelO.isSome_eq {o : Option V} {u : Option Value} (r : RelO o u) : o.isSome = u.isSome := by
  cases o with
  | none => cases u with
    | none => rfl
    | some _ => exact (show False from r).elim
  | some _ => cases u with
    | none => exact (show False from r).elim
    | some _ => rfl
/-- raw tables of the same keys -/
theorem KV.val {kvs : List (κ × V)} {vs : List (κ × Value)} (r : KV kvs vs) (k : κ) : RelO (valV kvs k) (valueAt vs k) := by
  unfold KV at r
  induction r with
  | nil => exact True.intro
  | @cons p q ps qs h t ih =>
    obtain ⟨h1, h2⟩ := h
    by_cases e : p.1 = k
    · have e' : q.1 = k := h1.symm.trans e
      have b : valueAt (q :: qs) k = some q.2 := by simp [valueAt, List.find?_cons, e']
      rw [valV_pos e, b]; exact h2
    · have e' : ¬ q.1 = k := fun z => e (h1.trans z)
      have b : valueAt (q :: qs) k = valueAt qs k := by simp [valueAt, List.find?_cons, e']
      rw [valV_neg e, b]; exact ih
theorem KV.any {kvs : List (κ × V)} {vs : List (κ × Value)} (r : KV kvs vs) (k : κ) : (kvs.any fun kv => decide (kv.1 = k)) = vs.any fun kv => decide (kv.1 = k) := by
  unfold KV at r
  induction r with
  | nil => rfl
  | cons h t ih => rw [List.any_cons, List.any_cons, ih, h.1]
theorem KV.repl {kvs : List (κ × V)} {vs : List (κ × Value)} (r : KV kvs vs) (k : κ) {y : V} {u : Value} (ry : RelV y u) :
    KV (kvs.map fun kv => if kv.1 = k then (kv.1, y) else kv) (vs.map fun kv => if kv.1 = k then (kv.1, u) else kv) := by
  unfold KV at r ⊢
  induction r with
  | nil => exact .nil
  | @cons p q ps qs h t ih =>
    rw [List.map_cons, List.map_cons]
    refine .cons ?_ ih
    obtain ⟨h1, h2⟩ := h
    by_cases e : p.1 = k
    · rw [if_pos e, if_pos (h1.symm.trans e)]; exact ⟨h1, ry⟩
    · rw [if_neg e, if_neg (fun z => e (h1.trans z))]; exact ⟨h1, h2⟩
theorem KV.put {kvs : List (κ × V)} {vs : List (κ × Value)} (r : KV kvs vs) (k : κ) {y : V} {u : Value} (ry : RelV y u) : KV (putK kvs k y) (stored vs k u) := by
  unfold putK stored
  rw [r.any k]
  by_cases e : (vs.any fun kv => decide (kv.1 = k)) = true
  · rw [if_pos e, if_pos e]; exact r.repl k ry
  · rw [if_neg e, if_neg e]; exact Paired.snoc r ⟨rfl, ry⟩
theorem KV.drop {kvs : List (κ × V)} {vs : List (κ × Value)} (r : KV kvs vs) (k : κ) : KV (dropK kvs k) (without vs k) := by
  unfold KV at r ⊢
  unfold dropK without
  induction r with
  | nil => exact .nil
  | @cons p q ps qs h t ih =>
    obtain ⟨h1, h2⟩ := h
    rw [List.filter_cons, List.filter_cons]
    by_cases e : p.1 = k
    · have a : ¬ decide (p.1 ≠ k) = true := by simp [e]
      have b : ¬ decide (q.1 ≠ k) = true := by simp [h1.symm.trans e]
      rw [if_neg a, if_neg b]; exact ih
    · have e' : ¬ q.1 = k := fun z => e (h1.trans z)
      have a : decide (p.1 ≠ k) = true := by simp [e]
      have b : decide (q.1 ≠ k) = true := by simp [e']
      rw [if_pos a, if_pos b]; exact .cons ⟨h1, h2⟩ ih
theorem KV.length {kvs : List (κ × V)} {vs : List (κ × Value)} (r : KV kvs vs) : kvs.length = vs.length := Paired.length r
theorem dropK_le (kvs : List (κ × V)) (k : κ) : (dropK kvs k).length ≤ kvs.length := List.length_filter_le _ _
end


/-! ### a tracked dict, its keys ints and texts or tuples of these -/
theorem kV_is {P : Program} {w : World} {k : Key} {u : Value} (r : RelV (kV k) u) : (mixKind P w).is k u = true := by
  cases k with
  | inl i => obtain ⟨t, e⟩ := (show ∃ t, u = Value.int i t from r); subst e; exact mixKind_int P w i t
  | inr x => obtain ⟨t, e⟩ := (show ∃ t, u = Value.str x t from r); subst e; exact mixKind_str P w x t
theorem items_are {P : Program} {w : World} : ∀ {ks : List Key} {us : List Value}, Vals (ks.map kV) us → ItemsAre (mixKind P w) ks us
  | [], _, r => by rw [List.map_nil] at r; cases r; exact .nil
  | k :: ks, _, r => by
    rw [List.map_cons] at r
    cases r with
    | cons h t => exact .cons (kV_is h) (items_are t)

/-- raw entries of a dict with tuple keys -/
abbrev KT (H : Hp) : List (List Key × V) → List (List Key × Addr × Value) → Prop := Paired fun p q => p.1 = q.1 ∧ H q.2.1 = some (.tup (p.1.map kV)) ∧ RelV p.2 q.2.2
theorem KT.val {H : Hp} {kvs : List (List Key × V)} {xs : List (List Key × Addr × Value)} (r : KT H kvs xs) (k : List Key) : RelO (valV kvs k) ((atKey xs k).map (·.2)) := by
  induction r with
  | nil => exact True.intro
  | @cons p q ps qs h t ih =>
    obtain ⟨h1, _, h2⟩ := h
    by_cases e : p.1 = k
    · have e' : q.1 = k := h1.symm.trans e
      have b : atKey (q :: qs) k = some q.2 := by simp [atKey, List.find?_cons, e']
      rw [valV_pos e, b]; exact h2
    · have e' : ¬ q.1 = k := fun z => e (h1.trans z)
      have b : atKey (q :: qs) k = atKey qs k := by simp [atKey, List.find?_cons, e']
      rw [valV_neg e, b]; exact ih
theorem KT.repl {H : Hp} {kvs : List (List Key × V)} {xs : List (List Key × Addr × Value)} (r : KT H kvs xs) (k : List Key) {y : V} {u : Value} (ry : RelV y u) :
    KT H (kvs.map fun kv => if kv.1 = k then (kv.1, y) else kv) (xs.map (putAt k u)) := by
  induction r with
  | nil => exact .nil
  | @cons p q ps qs h t ih =>
    rw [List.map_cons, List.map_cons]
    refine .cons ?_ ih
    obtain ⟨h1, h2, h3⟩ := h
    unfold putAt
    by_cases e : p.1 = k
    · rw [if_pos e, if_pos (h1.symm.trans e)]; exact ⟨h1, h2, ry⟩
    · rw [if_neg e, if_neg (fun z => e (h1.trans z))]; exact ⟨h1, h2, h3⟩
theorem KT.put {H : Hp} {kvs : List (List Key × V)} {xs : List (List Key × Addr × Value)} (r : KT H kvs xs) (k : List Key) {b : Addr} {y : V} {u : Value} (hb : H b = some (.tup (k.map kV))) (ry : RelV y u) :
    KT H (putK kvs k y) (storedH xs k b u) := by
  have e : (kvs.any fun kv => decide (kv.1 = k)) = (atKey xs k).isSome := by
    rw [valV_any, (r.val k).isSome_eq, Option.isSome_map]
  unfold putK storedH
  rw [e]
  by_cases q : (atKey xs k).isSome = true
  · rw [if_pos q, if_pos q]; exact r.repl k ry
  · rw [if_neg q, if_neg q]; exact Paired.snoc r ⟨rfl, hb, ry⟩
theorem KT.keeps {H H' : Hp} {kvs : List (List Key × V)} {xs : List (List Key × Addr × Value)} (r : KT H kvs xs) (ht : ∀ b ys, H b = some (.tup ys) → H' b = some (.tup ys)) : KT H' kvs xs :=
  Paired.mapP r fun _ _ z => ⟨z.1, ht _ _ z.2.1, z.2.2⟩

section
variable {P : Program} {w : World} {H : Hp} {h : Heap} {a : Addr}
theorem rd_of {u : HO} (ok : HOk P w H h) (e : Rd H a u) : ObjOk P w H h a u := e.ok ok
theorem dk_rd {kvs : List (Key × V)} (ok : HOk P w H h) (e : Rd H a (.dK kvs)) : kvs.length ≤ sizeLine ∧ (a == sysModules) = false ∧ ∃ vs, KV kvs vs ∧ h.DictOf (mixKind P w) a vs :=
  show ObjOk P w H h a (.dK kvs) from rd_of ok e
theorem dk_of {kvs : List (Key × V)} (ok : HOk P w H h) (e : H a = some (.dK kvs)) : kvs.length ≤ sizeLine ∧ (a == sysModules) = false ∧ ∃ vs, KV kvs vs ∧ h.DictOf (mixKind P w) a vs := dk_rd ok (.inl e)
/-- a tracked tuple of ints and texts is a key -/
theorem key_of {ks : List Key} (ok : HOk P w H h) (e : H a = some (.tup (ks.map kV))) : (tupleKind (mixKind P w)).is h ks a := by
  obtain ⟨_, its, r, o, h1, h2, n, h3⟩ := (show ObjOk P w H h a (.tup (ks.map kV)) from ok a _ e)
  exact ⟨o, its.toArray, n, h1, h2, h3, by simpa using items_are r⟩
theorem dt_rd {kvs : List (List Key × V)} (ok : HOk P w H h) (e : Rd H a (.dT kvs)) : kvs.length ≤ sizeLine ∧ (a == sysModules) = false ∧
    ∃ xs, KT H kvs xs ∧ h.DictOfH (tupleKind (mixKind P w)) a xs := by
  obtain ⟨z, y, xs, r, o, es, ep, h1, h2, h3, h4, h5⟩ := (show ObjOk P w H h a (.dT kvs) from rd_of ok e)
  refine ⟨z, y, xs, r, o, es, ep, h1, h2, h3, h4, fun x hx => ?_, h5⟩
  have all : ∀ {l : List (List Key × V)} {m : List (List Key × Addr × Value)}, KT H l m → ∀ x ∈ m, (tupleKind (mixKind P w)).is h x.1 x.2.1 := by
    intro l m q
    induction q with
    | nil => intro x hx; exact nomatch hx
    | @cons p q ps qs hq t ih =>
      intro x hx
      rcases List.mem_cons.mp hx with e | hx
      · subst e
        exact key_of ok (by rw [← hq.1]; exact hq.2.1)
      · exact ih x hx
  exact all r x hx
theorem dt_of {kvs : List (List Key × V)} (ok : HOk P w H h) (e : H a = some (.dT kvs)) : kvs.length ≤ sizeLine ∧ (a == sysModules) = false ∧
    ∃ xs, KT H kvs xs ∧ h.DictOfH (tupleKind (mixKind P w)) a xs := dt_rd ok (.inl e)
end

/-- what the dict at a holds at the key y -/
def DGet (H : Hp) (a : Addr) (y : V) (r : Option V) : Prop :=
  (∃ kvs k, Rd H a (.dK kvs) ∧ y = kV k ∧ r = valV kvs k) ∨ ∃ kvs k b, Rd H a (.dT kvs) ∧ y = .ref b ∧ H b = some (.tup (k.map kV)) ∧ r = valV kvs k
/-- the heap behind a[y] = v -/
def DPut (H : Hp) (a : Addr) (y v : V) (H' : Hp) : Prop :=
  (∃ kvs k, H a = some (.dK kvs) ∧ y = kV k ∧ kvs.length < sizeLine ∧ H' = upd H a (.dK (putK kvs k v))) ∨
  ∃ kvs k b, H a = some (.dT kvs) ∧ y = .ref b ∧ H b = some (.tup (k.map kV)) ∧ kvs.length < sizeLine ∧ H' = upd H a (.dT (putK kvs k v))
theorem DPut.k {H : Hp} {a : Addr} {kvs : List (Key × V)} {k : Key} {v : V} (e : H a = some (.dK kvs)) (hl : kvs.length < sizeLine) : DPut H a (kV k) v (upd H a (.dK (putK kvs k v))) := .inl ⟨kvs, k, e, rfl, hl, rfl⟩
section
variable {X : Cx} {pins : List (Addr × Obj)} {σ : St} {H : Hp} {s : Shared} {a : Addr} {y v : V} {u r : Value} {o : Option V} {A : Around} {E : Value → Shared → Prop}

theorem Inv.big (I : Inv X pins σ H s) : sysModules < s.heap.objs.size := by
  have h : mainGlobals < s.heap.objs.size := (I.mod.glob.keeps I.bk).lt
  exact Nat.lt_trans (by decide) h

/-- d[y], there -/
theorem d_getItem {Q : Value → Shared → Prop} (hu : A.units + 1 < cLine) (I : Inv X pins σ H s) (g : DGet H a y (some v)) (ry : RelV y u) (h : ∀ w' s', Inv X pins σ H s' → RelV v w' → Q w' s') :
    wpAny (model X.prog X.w) A (getItem (.ref a) u) Q E s := by
  rcases g with ⟨kvs, k, e, ey, l⟩ | ⟨kvs, k, b, e, ey, eb, l⟩
  · subst ey
    obtain ⟨z, hd, vs, rel, dd⟩ := dk_rd I.hok e
    obtain ⟨w', hw, rw'⟩ := RelO.some_of (v := v) (o := valueAt vs k) (by rw [l]; exact rel.val k)
    exact wpAny_getItem_of (kV_is ry) dd.mapOf hw (h w' _ (I.tok _) rw')
  · subst ey
    cases (show u = Value.ref b from ry)
    obtain ⟨z, hd, xs, rel, dd⟩ := dt_rd I.hok e
    obtain ⟨w', hw, rw'⟩ := RelO.some_of (v := v) (o := (atKey xs k).map (·.2)) (by rw [l]; exact rel.val k)
    obtain ⟨p, hp, hp2⟩ := Option.map_eq_some_iff.mp hw
    refine wpAny_getItem_heap (tupleKind_room_in1 hu) (key_of I.hok eb) dd hp ?_
    rw [hp2]
    exact h w' _ (I.tok _) rw'
/-- y in d -/
theorem d_in {Q : Value → Shared → Prop} (hu : A.units + 1 < cLine) (I : Inv X pins σ H s) (g : DGet H a y o) (ry : RelV y u) (h : ∀ s', Inv X pins σ H s' → Q (.bool o.isSome) s') :
    wpAny (model X.prog X.w) A (compareOp .In u (.ref a)) Q E s := by
  rcases g with ⟨kvs, k, e, ey, l⟩ | ⟨kvs, k, b, e, ey, eb, l⟩
  · subst ey
    obtain ⟨z, hd, vs, rel, dd⟩ := dk_rd I.hok e
    refine wpAny_in_of (kV_is ry) hd dd.mapOf ?_
    rw [← (rel.val k).isSome_eq, ← l]
    exact h _ (I.tok _)
  · subst ey
    cases (show u = Value.ref b from ry)
    obtain ⟨z, hd, xs, rel, dd⟩ := dt_rd I.hok e
    refine wpAny_in_heap (tupleKind_room_in1 hu) (key_of I.hok eb) hd dd ?_
    have q := (rel.val k).isSome_eq
    rw [Option.isSome_map] at q
    rw [← q, ← l]
    exact h _ (I.tok _)
theorem d_notIn {Q : Value → Shared → Prop} (hu : A.units + 1 < cLine) (I : Inv X pins σ H s) (g : DGet H a y o) (ry : RelV y u) (h : ∀ s', Inv X pins σ H s' → Q (.bool (!o.isSome)) s') :
    wpAny (model X.prog X.w) A (compareOp .NotIn u (.ref a)) Q E s := by
  rcases g with ⟨kvs, k, e, ey, l⟩ | ⟨kvs, k, b, e, ey, eb, l⟩
  · subst ey
    obtain ⟨z, hd, vs, rel, dd⟩ := dk_rd I.hok e
    refine wpAny_notIn_of (kV_is ry) hd dd.mapOf ?_
    rw [← (rel.val k).isSome_eq, ← l]
    exact h _ (I.tok _)
  · subst ey
    cases (show u = Value.ref b from ry)
    obtain ⟨z, hd, xs, rel, dd⟩ := dt_rd I.hok e
    refine wpAny_notIn_heap (tupleKind_room_in1 hu) (key_of I.hok eb) hd dd ?_
    have q := (rel.val k).isSome_eq
    rw [Option.isSome_map] at q
    rw [← q, ← l]
    exact h _ (I.tok _)
/-- a dict's object is replaced -/
theorem d_write {h' : Heap} {t' : Nat} {ob : HO} (I : Inv X pins σ H s) (mu : Mut (H a)) (hs : Heap.SameBut a s.heap h') (he : ∃ q, h'.get? a = some q) (new : ObjOk X.prog X.w (upd H a ob) h' a ob) :
    Inv X pins σ (upd H a ob) { s with heap := h', toks := t' } :=
  I.write (x := a) (e := a) mu (.inl rfl) (fun b q hb z => (hs.2 b hb).trans z) he new
theorem dk_new {P : Program} {w : World} {H' : Hp} {h' : Heap} {kvs : List (Key × V)} {vs : List (Key × Value)} (z : kvs.length ≤ sizeLine) (hd : (a == sysModules) = false) (rel : KV kvs vs) (dd : h'.DictOf (mixKind P w) a vs) :
    ObjOk P w H' h' a (.dK kvs) := ⟨z, hd, vs, rel, dd⟩
/-- d[y] = v -/
theorem d_setItem {H' : Hp} {Q : Unit → Shared → Prop} (hu : A.units + 1 < cLine) (I : Inv X pins σ H s) (g : DPut H a y v H') (ry : RelV y u) (rv : RelV v r) (h : ∀ s', Inv X pins σ H' s' → Q () s') :
    wpAny (model X.prog X.w) A (setItem (.ref a) u r) Q E s := by
  rcases g with ⟨kvs, k, e, ey, l, eH⟩ | ⟨kvs, k, b, e, ey, eb, l, eH⟩
  · subst ey eH
    obtain ⟨z, hd, vs, rel, dd⟩ := dk_of I.hok e
    have hz : vs.length ≤ sizeLine := by rw [← rel.length]; exact z
    have hl : (putK kvs k v).length ≤ sizeLine := by have := length_putK kvs k v; omega
    refine wpAny_setItem_pairs (hsz := hz) (kV_is ry) dd fun h' dd' hs => h _ ?_
    have he : ∃ q, h'.get? a = some q := let ⟨q, _, _, hq, _⟩ := dd'; ⟨q, hq⟩
    exact d_write I (by rw [e]; exact True.intro) hs he (dk_new hl hd (rel.put k rv) dd')
  · subst ey eH
    cases (show u = Value.ref b from ry)
    obtain ⟨z, hd, xs, rel, dd⟩ := dt_of I.hok e
    have hz : xs.length ≤ sizeLine := by rw [← Paired.length rel]; exact z
    have hl : (putK kvs k v).length ≤ sizeLine := by have := length_putK kvs k v; omega
    refine wpAny_setItem_heap (hsz := hz) (tupleKind_room_in1 hu) (key_of I.hok eb) dd fun h' dd' hs => h _ ?_
    obtain ⟨q, es, ep, hq, h2, h3, h4, _, h5⟩ := dd'
    refine d_write I (by rw [e]; exact True.intro) hs ⟨q, hq⟩ ⟨hl, hd, _, (rel.put k eb rv).keeps fun c ys ec => ?_, q, es, ep, hq, h2, h3, h4, h5⟩
    rw [upd_ne (ne_of ec e (fun z => nomatch z))]
    exact ec
end

section
variable {X : Cx} {pins : List (Addr × Obj)} {σ : St} {H : Hp} {s : Shared} {a : Addr} {kvs : List (Key × V)} {k : Key} {u : Value} {A : Around} {E : Value → Shared → Prop}
/-- del d[k] -/
theorem d_delItem {Q : Unit → Shared → Prop} (I : Inv X pins σ H s) (e : H a = some (.dK kvs)) (ry : RelV (kV k) u) (l : (valV kvs k).isSome = true) (h : ∀ s', Inv X pins σ (upd H a (.dK (dropK kvs k))) s' → Q () s') :
    wpAny (model X.prog X.w) A (delItem (.ref a) u) Q E s := by
  obtain ⟨z, hd, vs, rel, dd⟩ := dk_of I.hok e
  refine wpAny_delItem_slot dd.typeIs (by decide) PySem.F.slot_dict_delitem
    (call_meetsIn PySem.F.slot_dict_delitem dd.typeIs PySem.F.entry_dict_delitem (PySem.F.args_dict_delitem_2 _ _) (meets_dict_delitem_pairs (mixKind X.prog X.w) a (kV_is ry)) ⟨vs, dd, by rw [← rel.length]; exact z, by rw [← (rel.val k).isSome_eq]; exact l, fun h' dd' hs => h _ ?_⟩)
  have he : ∃ q, h'.get? a = some q := let ⟨q, _, _, hq, _⟩ := dd'; ⟨q, hq⟩
  exact d_write I (by rw [e]; exact True.intro) hs he (dk_new (Nat.le_trans (dropK_le kvs k) z) hd (rel.drop k) dd')
/-- d.pop(k[, x]), there -/
theorem d_pop {v : V} {more : List Value} {Q : Value → Shared → Prop} (I : Inv X pins σ H s) (e : H a = some (.dK kvs)) (ry : RelV (kV k) u) (l : valV kvs k = some v) (hm : more = [] ∨ ∃ x, more = [x])
    (h : ∀ w' s', Inv X pins σ (upd H a (.dK (dropK kvs k))) s' → RelV v w' → Q w' s') : wpAny (model X.prog X.w) A (call (.builtin "dict.pop") (.ref a :: u :: more)) Q E s := by
  obtain ⟨z, hd, vs, rel, dd⟩ := dk_of I.hok e
  obtain ⟨w', hw, rw'⟩ := RelO.some_of (v := v) (o := valueAt vs k) (by rw [← l]; exact rel.val k)
  have hp : (keyPart u).isSome = true := by
    cases k with
    | inl i => obtain ⟨t, q⟩ := (show ∃ t, u = Value.int i t from ry); subst q; rfl
    | inr x => obtain ⟨t, q⟩ := (show ∃ t, u = Value.str x t from ry); subst q; rfl
  have ha : argsOk "dict.pop" ⟨.ref a :: u :: more, []⟩ := by
    rcases hm with q | ⟨x, q⟩
    · subst q; exact PySem.F.args_dict_pop_2 _ _
    · subst q; exact PySem.F.args_dict_pop_3 _ _ _
  refine call_meetsIn PySem.F.slot_dict_pop dd.typeIs PySem.F.entry_dict_pop ha (meets_dict_pop_there (mixKind X.prog X.w) a (kV_is ry) more hm hp)
    ⟨vs, w', dd, by rw [← rel.length]; exact z, hw, fun h' dd' hs => h w' _ ?_ rw'⟩
  have he : ∃ q, h'.get? a = some q := let ⟨q, _, _, hq, _⟩ := dd'; ⟨q, hq⟩
  exact d_write I (by rw [e]; exact True.intro) hs he (dk_new (Nat.le_trans (dropK_le kvs k) z) hd (rel.drop k) dd')
end


/-! ### readings and rules -/
/-- the element of a subscription, not a slice -/
def NoSl (i : Expr) : Prop := ∀ ov iv, subscripted i false ov iv = operate [ov, iv] (getItem ov iv)
theorem subD_of {prog : Program} {w : World} {A : Around} {E : Value → Shared → Prop} {s : Shared} {env : Env} {value slice : Expr} {pos : Pos} {T id : String} {Q : Value → Shared → Prop}
    (hl : typeLookup (.type T) "__getitem__" = pure (some (.builtin id))) (hs : NoSl slice)
    (h : wpAny (model prog w) A (eval value env) (fun o s₁ => wpAny (model prog w) A (eval slice env) (fun i s₂ => s₂.TypeIs o T ∧ wpAny (model prog w) A (getItem o i) Q E s₂) E s₁) E s) :
    wpAny (model prog w) A (eval (.Subscript value slice pos) env) Q E s := by
  refine Subscript_ (wpAny_mono h (fun o s₁ h₁ => wpAny_mono h₁ (fun i s₂ h₂ => ?_) fun _ _ x => x) fun _ _ x => x)
  obtain ⟨hT, h₂⟩ := h₂
  unfold subscriptTail
  refine wpAny_bind ?_
  rw [getitemInPython_of_ne hT.not_modules]
  refine wpAny_bind (wpAny_specialOf hT hl ?_)
  have fin : wpAny (model prog w) A (subscripted slice false o i) (fun r s₃ => wpAny (model prog w) A (letTemporaryGo value o r >>= fun _ => pure r) Q E s₃) E s₂ := by
    rw [hs o i]
    exact wpAny_operating (wpAny_mono h₂ (fun r s₃ h₃ => wpAny_bind (wpAny_letTemporaryGo (wpAny_pure h₃))) fun _ _ x => x)
  first
    | exact wpAny_pure (wpAny_bind fin)
    | exact wpAny_bind (wpAny_pure (wpAny_bind fin))
    | exact wpAny_bind fin

theorem dict_typeIs {X : Cx} {pins : List (Addr × Obj)} {σ : St} {H : Hp} {s : Shared} {a : Addr} {y : V} {o : Option V} (I : Inv X pins σ H s) (g : DGet H a y o) : s.TypeIs (.ref a) "dict" := by
  rcases g with ⟨kvs, k, e, _, _⟩ | ⟨kvs, k, b, e, _, _, _⟩
  · obtain ⟨_, _, vs, _, dd⟩ := dk_rd I.hok e
    exact dd.typeIs
  · obtain ⟨_, _, xs, _, dd⟩ := dt_rd I.hok e
    exact dd.typeIs
/-- d[y] -/
def tDGet (td ty : TE) : TE := fun σ H Q => td σ H fun x H1 => ty σ H1 fun y H2 => ∃ a v, x = .ref a ∧ DGet H2 a y (some v) ∧ Q v H2
/-- y in d, y not in d -/
def tDIn (ty td : TE) : TE := fun σ H Q => ty σ H fun y H1 => td σ H1 fun x H2 => ∃ a o, x = .ref a ∧ DGet H2 a y o ∧ Q (.bl o.isSome) H2
def tDNotIn (ty td : TE) : TE := fun σ H Q => ty σ H fun y H1 => td σ H1 fun x H2 => ∃ a o, x = .ref a ∧ DGet H2 a y o ∧ Q (.bl (!o.isSome)) H2
/-- d[y] = v -/
def sDPut (td ty tv : TE) : TS := fun D σ H => tv σ H fun v H1 => td σ H1 fun x H2 => ty σ H2 fun y H3 => ∃ a H4, x = .ref a ∧ DPut H3 a y v H4 ∧ D.nx σ H4
section
variable {X : Cx} {o i e value : Expr} {pos pos' tpos : Pos} {td ty tv : TE}
theorem pe_dget (hu : X.A.units + 1 < cLine) (ho : PE X o td) (hi : PE X i ty) (hs : NoSl i) : PE X (.Subscript o i pos) (tDGet td ty) := by
  intro pins s σ H Q I h
  refine subD_of PySem.F.slot_dict_getitem.lookup hs (thn (ho pins s σ H _ I h) fun u s1 ⟨x, H1, I1, rx, q1⟩ => thn (hi pins s1 σ H1 _ I1 q1) fun iv s2 ⟨y, H2, I2, ry, a, v, ex, g, q2⟩ => ?_)
  subst ex
  obtain rfl : u = Value.ref a := rx
  exact ⟨dict_typeIs I2 g, d_getItem hu I2 g ry fun w' s3 I3 rw' => ⟨v, H2, I3, rw', q2⟩⟩
theorem pc_din (hu : X.A.units + 1 < cLine) (hi : PE X i ty) (ho : PE X o td) : PC X .In i o (tDIn ty td) := by
  intro pins s σ H Q I h
  refine thn (hi pins s σ H _ I h) fun iv s1 ⟨y, H1, I1, ry, q1⟩ => thn (ho pins s1 σ H1 _ I1 q1) fun u s2 ⟨x, H2, I2, rx, a, ov, ex, g, q2⟩ => ?_
  subst ex
  obtain rfl : u = Value.ref a := rx
  exact d_in hu I2 g ry fun s3 I3 => ⟨.bl ov.isSome, H2, I3, rfl, q2⟩
theorem pc_dnotin (hu : X.A.units + 1 < cLine) (hi : PE X i ty) (ho : PE X o td) : PC X .NotIn i o (tDNotIn ty td) := by
  intro pins s σ H Q I h
  refine thn (hi pins s σ H _ I h) fun iv s1 ⟨y, H1, I1, ry, q1⟩ => thn (ho pins s1 σ H1 _ I1 q1) fun u s2 ⟨x, H2, I2, rx, a, ov, ex, g, q2⟩ => ?_
  subst ex
  obtain rfl : u = Value.ref a := rx
  exact d_notIn hu I2 g ry fun s3 I3 => ⟨.bl (!ov.isSome), H2, I3, rfl, q2⟩
theorem ps_dput (hu : X.A.units + 1 < cLine) (ho : PE X o td) (hi : PE X i ty) (hv : PE X value tv) (hs : swapsWith value (some (.Subscript o i pos')) pos.line X.env = pure false) :
    PS X (.Assign [.Subscript o i pos'] value pos) (sDPut td ty tv) := by
  intro pins s σ H D I h
  refine wpAny_Assign_Subscript (thn (hv pins s σ H _ I h) fun r s1 ⟨v, H1, I1, rv, q1⟩ => thn (ho pins s1 σ H1 _ I1 q1) fun u s2 ⟨x, H2, I2, rx, q2⟩ => thn (hi pins s2 σ H2 _ I2 q2) fun iv s3 ⟨y, H3, I3, ry, a, H4, ex, g, q3⟩ => ?_) hs
  subst ex
  obtain rfl : u = Value.ref a := rx
  exact d_setItem hu I3 g ry rv fun s4 I4 => ⟨σ, H4, I4, q3⟩
end


/-! ### displays -/
theorem dk_empty {P : Program} {w : World} {H : Hp} (h : Heap) (hb : sysModules < h.objs.size) : ObjOk P w H (h.push { cls := .type "dict", data := .dict #[] }) h.objs.size (.dK []) :=
  ⟨Nat.zero_le _, beq_eq_false_iff_ne.mpr (Ne.symm (Nat.ne_of_lt hb)), [], .nil, Heap.DictOf.new h⟩
/-- {}, to be a dict of the kind that is wanted -/
def tDNewK : TE := fun _ H Q => ∀ p, H p = none → Q (.ref p) (upd H p (.dK []))
section
variable {X : Cx} {pos : Pos}
theorem pe_dnewK : PE X (.Dict [] [] pos) tDNewK := fun pins s σ H Q I h =>
  wpAny_Dict_empty ⟨.ref s.heap.objs.size, _, I.laid (a := s.heap.objs.size) (o := .dK []) (t' := s.toks) (fun _ _ q => Heap.get?_push_of_some _ q) (Nat.le_refl _) (dk_empty s.heap I.big), rfl, h _ (I.hok.fresh (Nat.le_refl _))⟩
end

/-! ### methods -/
/-- a method call o.m(e) of a built-in, with one argument: what must be seen of the text -/
structure M1 (X : Cx) (o : Expr) (m : Str) (apos : Pos) (e : Expr) (cpos : Pos) : Prop where
  base : attributeBase o m X.env (eval o X.env) = eval o X.env
  few : ((backTo cpos (starEach [e] X.env)).all (fun x => !x.1) && (backToKw cpos (keywordEach [] X.env)).all (fun x => x.1.isSome)
    && decide (([e] : List Expr).length + ([] : List Keyword).length + (if ([] : List Keyword).isEmpty then 0 else 1) < 30)) = true
  line : (apos.endLine == cpos.line) = true
  trees : backTo cpos (starEach [e] X.env) = [(false, eval e X.env)]
structure M2 (X : Cx) (o : Expr) (m : Str) (apos : Pos) (e f : Expr) (cpos : Pos) : Prop where
  base : attributeBase o m X.env (eval o X.env) = eval o X.env
  few : ((backTo cpos (starEach [e, f] X.env)).all (fun x => !x.1) && (backToKw cpos (keywordEach [] X.env)).all (fun x => x.1.isSome)
    && decide (([e, f] : List Expr).length + ([] : List Keyword).length + (if ([] : List Keyword).isEmpty then 0 else 1) < 30)) = true
  line : (apos.endLine == cpos.line) = true
  trees : backTo cpos (starEach [e, f] X.env) = [(false, eval e X.env), (false, eval f X.env)]

/-- a is a dict, whatever its keys -/
def IsD (H : Hp) (a : Addr) : Prop := (∃ kvs, Rd H a (.dK kvs)) ∨ ∃ kvs, Rd H a (.dT kvs)
theorem isD_at {X : Cx} {pins : List (Addr × Obj)} {σ : St} {H : Hp} {s : Shared} {a : Addr} (I : Inv X pins σ H s) (d : IsD H a) :
    s.TypeIs (.ref a) "dict" ∧ (∀ b, Value.ref a = .ref b → ∃ ob, s.heap.get? b = some ob ∧ ob.dict = none) ∧ (a == sysModules) = false := by
  rcases d with ⟨kvs, e⟩ | ⟨kvs, e⟩
  · obtain ⟨_, hd, vs, _, dd⟩ := dk_rd I.hok e
    refine ⟨dd.typeIs, fun b q => ?_, hd⟩
    cases q
    obtain ⟨ob, _, _, h1, h2, _⟩ := dd
    exact ⟨ob, h1, h2.2.1⟩
  · obtain ⟨_, hd, xs, _, dd⟩ := dt_rd I.hok e
    refine ⟨dd.typeIs, fun b q => ?_, hd⟩
    cases q
    obtain ⟨ob, _, _, h1, h2, _⟩ := dd
    exact ⟨ob, h1, h2.2.1⟩

section
variable {X : Cx} {pins : List (Addr × Obj)} {σ : St} {H : Hp} {s : Shared} {a : Addr} {y d : V} {u r : Value} {o : Option V} {A : Around} {E : Value → Shared → Prop}
end

/-- d.pop(k): there; d.pop(k, x): there or not -/
def tDPop1 (td ty : TE) : TE := fun σ H Q => td σ H fun x H1 => ∃ a, x = .ref a ∧ IsD H1 a ∧ ty σ H1 fun y H2 => ∃ kvs k v, H2 a = some (.dK kvs) ∧ y = kV k ∧ valV kvs k = some v ∧ Q v (upd H2 a (.dK (dropK kvs k)))
section
variable {X : Cx} {o e f : Expr} {apos cpos : Pos} {td ty tx : TE}
theorem pe_dpop1 (ho : PE X o td) (he : PE X e ty) (m : M1 X o "pop" apos e cpos) : PE X (.Call (.Attribute o "pop" apos) [e] [] cpos) (tDPop1 td ty) := by
  intro pins s σ H Q I h
  refine wpAny_Call_method m.base m.few m.line PySem.F.plainAttrs_dict PySem.F.slot_dict_pop PySem.F.type_dict_pop (thn (ho pins s σ H _ I h) fun u s1 ⟨x, H1, I1, rx, a, ex, d, q1⟩ => ?_)
  subst ex
  obtain rfl : u = Value.ref a := rx
  obtain ⟨t1, t2, _⟩ := isD_at I1 d
  refine ⟨t1, t2, ?_⟩
  rw [m.trees]
  refine Calls.callWith_builtin rfl (Calls.evalArgs_plain (Calls.spliced_cons (thn (he pins s1 σ H1 _ I1 q1) fun iv s2 ⟨y, H2, I2, ry, kvs, k, v, ea, ey, l, q2⟩ => Calls.spliced_nil ?_)))
  subst ey
  exact d_pop I2 ea ry l (.inl rfl) fun w' s3 I3 rw' => ⟨v, _, I3, rw', q2⟩
end

/-! ### dict(d): a copy -/
section
variable {X : Cx} {pins : List (Addr × Obj)} {σ : St} {H : Hp} {s : Shared} {a : Addr} {kvs : List (Key × V)} {A : Around} {E : Value → Shared → Prop}
end


section
variable {X : Cx} {pins : List (Addr × Obj)} {σ : St} {H : Hp} {s : Shared} {a : Addr} {y : V} {u : Value} {A : Around} {E : Value → Shared → Prop}
end
end L2

namespace L2
open PySem PySem.Spec PyProof.Rows

section
variable {prog : Program} {w : World} {A : Around} {E : Value → Shared → Prop}
end

section
variable {X : Cx}
end
end L2

namespace L2
open PySem PySem.Spec PyProof.Rows

section
variable {X : Cx} {pins : List (Addr × Obj)} {σ : St} {H : Hp} {s : Shared} {h' : Heap}
/-! ### locking a thing while a statement runs -/
theorem Inv.lock {d : Addr} {u : HO} (I : Inv X pins σ H s) (h : H d = some u) (mu : Mut (some u)) : ∃ od, Inv X pins σ (upd H d (.frz od u)) s := by
  have x := I.hok d u h
  have ex : ∃ od, s.heap.get? d = some od := by
    cases u with
    | lst xs => obtain ⟨_, _, _, _, e⟩ := x; exact ⟨_, e⟩
    | dK kvs => obtain ⟨_, _, _, _, o, _, _, e, _⟩ := x; exact ⟨o, e⟩
    | dT kvs => obtain ⟨_, _, _, _, o, _, _, e, _⟩ := x; exact ⟨o, e⟩
    | set S n => obtain ⟨o, _, _, _, e, _⟩ := x; exact ⟨o, e⟩
    | ins C dx fs => obtain ⟨_, _, _, e, _⟩ := x; exact ⟨_, e⟩
    | ext φ => obtain ⟨_, ⟨_, e⟩, _⟩ := x; exact ⟨_, e⟩
    | _ => exact False.elim mu
  obtain ⟨od, e⟩ := ex
  have new : ObjOk X.prog X.w (upd H d (.frz od u)) s.heap d (.frz od u) := by
    refine ⟨e, x.stay (fun b v _ q => q) (fun b q => ?_) fun b xs q => ?_⟩
    · rw [upd_ne (fun z => by rw [z, h] at q; cases q; exact mu)]; exact q
    · rw [upd_ne (fun z => by rw [z, h] at q; cases q; exact mu)]; exact q
  exact ⟨od, I.write (x := d) (e := d) (t' := s.toks) (h' := s.heap) (by rw [h]; exact mu) (.inl rfl) (fun b v _ q => q) ⟨od, e⟩ new⟩
theorem Inv.nofrz {d : Addr} {u : HO} (I : Inv X pins σ H s) (h : H d = some u) (mu : Mut (some u)) : ∀ o' u', X.H_0 d ≠ some (.frz o' u') := fun o' u' e => by
  have q := I.base.frzs d o' u' e
  rw [h] at q
  cases q
  exact mu
theorem Inv.unlock {d : Addr} {od : Obj} {u : HO} (I : Inv X pins σ H s) (h : H d = some (.frz od u)) (hn : ∀ o' u', X.H_0 d ≠ some (.frz o' u')) : Inv X pins σ (upd H d u) s := by
  have neH : ∀ b o, H b = some o → (∀ o' u', o ≠ .frz o' u') → b ≠ d := fun b o e hne z => by
    rw [z, h] at e
    cases e
    exact hne _ _ rfl
  have neN : ∀ b, H b = none → b ≠ d := fun b e z => by rw [z, h] at e; cases e
  refine ⟨I.ok, I.os, I.bare, ⟨I.base.keep, I.base.slot, fun b o e n hx => ?_, I.base.there, fun b xs e => ?_, fun b o x e => ?_, fun b ps e => ?_⟩, I.loc, I.cell, ?_, fun x c e => ?_, fun p hp => ?_, fun b o e => ?_, I.len⟩
  · rw [upd_ne (neN b (I.base.free b o e n hx))]; exact I.base.free b o e n hx
  · have q := I.base.tups b xs e
    rw [upd_ne (neH b _ q (fun _ _ z => nomatch z))]; exact q
  · have q := I.base.frzs b o x e
    rw [upd_ne (fun z => by rw [z] at e; exact hn _ _ e)]; exact q
  · obtain ⟨m, q⟩ := I.base.tbls b ps e
    exact ⟨m, by rw [upd_ne (neH b _ q (fun _ _ z => nomatch z))]; exact q⟩
  · rw [upd_ne (neN _ I.free)]; exact I.free
  · rw [upd_ne (neN c (I.freeC x c e))]; exact I.freeC x c e
  · obtain ⟨e, n, r⟩ := I.pin p hp
    exact ⟨e, by rw [upd_ne (neN _ n)]; exact n, r⟩
  · by_cases hb : b = d
    · rw [hb, upd_same] at e
      cases e
      rw [hb]
      obtain ⟨_, x⟩ := I.hok d _ h
      exact x.stay (fun c v _ q => q) (fun c q => by rw [upd_ne (neH c _ q (fun _ _ z => nomatch z))]; exact q) fun c xs q => by rw [upd_ne (neH c _ q (fun _ _ z => nomatch z))]; exact q
    · rw [upd_ne hb] at e
      exact (I.hok b o e).stay (fun c v _ q => q) (fun c q => by rw [upd_ne (neH c _ q (fun _ _ z => nomatch z))]; exact q) fun c xs q => by rw [upd_ne (neH c _ q (fun _ _ z => nomatch z))]; exact q
end
/-- the statement runs while the thing at d is locked (read, not written); d and what stands there are the reading's choice -/
def tLock (t : TS) : TS := fun D σ H => ∃ d u, H d = some u ∧ Mut (some u) ∧ ∀ od, t ⟨fun σ' H' => H' d = some (.frz od u) ∧ D.nx σ' (upd H' d u), fun v H' => H' d = some (.frz od u) ∧ D.rt v (upd H' d u), fun σ' H' => H' d = some (.frz od u) ∧ D.bk σ' (upd H' d u), fun σ' H' => H' d = some (.frz od u) ∧ D.ct σ' (upd H' d u)⟩ σ (upd H d (.frz od u))
section
variable {X : Cx}
theorem ps_lock {st : Stmt} {t : TS} (h : PS X st t) : PS X st (tLock t) := by
  intro pins s σ H D I hw
  obtain ⟨d, u, hd, mu, hw⟩ := hw
  obtain ⟨od, I1⟩ := I.lock hd mu
  refine thn (h pins s σ _ _ I1 (hw od)) fun f s1 q => ?_
  cases f with
  | next => obtain ⟨σ', H', I2, e, q⟩ := q; exact ⟨σ', _, I2.unlock e (I.nofrz hd mu), q⟩
  | brk => obtain ⟨σ', H', I2, e, q⟩ := q; exact ⟨σ', _, I2.unlock e (I.nofrz hd mu), q⟩
  | cont => obtain ⟨σ', H', I2, e, q⟩ := q; exact ⟨σ', _, I2.unlock e (I.nofrz hd mu), q⟩
  | ret v => obtain ⟨x, σ', H', I2, r, e, q⟩ := q; exact ⟨x, σ', _, I2.unlock e (I.nofrz hd mu), r, q⟩
/-! ### one iterator just laid -/
theorem pi_one {tg : Expr} {pins : List (Addr × Obj)} {σ : St} {H : Hp} {s : Shared} {R : It → Hp → Prop} {J : It} {tn : Nat → Heap → Prop} {tk : Nat} (I : Inv X pins σ H s) (o : Obj)
    (T : Turn X.prog X.w X.K tg J [s.heap.objs.size] s.heap.objs.size tn) (st : tn 0 (s.heap.push o)) (q : R J H) : PIE X pins σ tg R (.ref s.heap.objs.size) { s with heap := s.heap.push o, toks := tk } := by
  refine ⟨s.heap.objs.size, [s.heap.objs.size], tn, J, H, rfl, I.kept fun b ob e => Heap.get?_push_of_some _ e, T, st, fun b hb => ?_, q⟩
  have e : b = s.heap.objs.size := by simpa using hb
  subst e
  exact I.fpOk (Nat.le_refl _) (I.hok.fresh (Nat.le_refl _))
end

/-! ### range with a step -/
section
variable {X : Cx} {tg : Expr}
end
/-! ### reversed(list) -/
section
variable {X : Cx} {tg : Expr}
end

/-! ### a str -/
/-! ### a dict's keys: any dict's entries -/
section
variable {prog : Program} {w : World} {A : Around} {E : Value → Shared → Prop} {s : Shared}
theorem iter_keys {d : Addr} {o : Obj} {es : Array DictEntry} {ep : Nat} {Q : Value → Shared → Prop} (hd : (d == sysModules) = false) (ho : s.heap.get? d = some o) (hc : o.ExactDict) (hdat : o.data = .dict es ep)
    (hQ : Q (.ref s.heap.objs.size) { s with heap := s.heap.push { cls := .type "dict_keyiterator", data := .fields #[.ref d, .int 0 0, .int es.size 0, .int ep 0] } }) :
    wpAny (model prog w) A (pyIter (.ref d)) Q E s := by
  have hT : s.TypeIs (.ref d) "dict" := ⟨o, ho, hc.1⟩
  refine wpAny_pyIter_slot hT F.slot_dict_iter (wpAny_call_entry F.slot_dict_iter hT F.entry_dict_iter ?_ (F.args_dict_iter_1 _))
  unfold Builtin.«dict.__iter__»
  refine wpAny_bind ?_
  unfold Builtin.Dict.dictSlotNone
  refine wpAny_bind (wpAny_notOrdered_dict hT ?_)
  show wpAny _ _ (pure (Value.ref d)) _ _ s
  refine wpAny_pure ?_
  show wpAny _ _ (Builtin.Dict.showsAll d >>= _) _ _ s
  unfold Builtin.Dict.showsAll
  rw [if_neg (by rw [hd]; exact Bool.false_ne_true)]
  refine wpAny_bind (wpAny_pure ?_)
  refine wpAny_bind (wpAny_dictEntries ho hdat ?_)
  refine wpAny_bind (wpAny_dictEpoch ho hdat ?_)
  refine wpAny_bind (wpAny_newObj_type (wpAny_pure ⟨_, rfl, "dict_keyiterator", _, ⟨_, Heap.get?_push_size _ rfl, rfl⟩, F.slot_dict_keyiterator_next.lookup, ?_⟩))
  simpa [rawInt] using hQ
theorem next_key_item {it d : Addr} {i n ep : Nat} {od : Obj} {es : Array DictEntry} {en : DictEntry} {Q : Option Value → Shared → Prop} (hit : s.heap.IsKeyIter it d i n ep) (hod : s.heap.get? d = some od) (hdd : od.data = .dict es ep)
    (hsz : es.size = n) (hx : es[i]? = some en) (hQ : ∀ h', h'.IsKeyIter it d (i + 1) n ep → Heap.SameBut it s.heap h' → Q (some en.key) { s with heap := h' }) : wpAny (model prog w) A (pyNext (.ref it)) Q E s := by
  obtain ⟨o, ho, hc, hd⟩ := id hit
  unfold pyNext
  refine wpAny_bind (wpAny_attempt (wpAny_callSpecial?_slot (name := Str.ofString "__next__") hit.typeIs F.slot_dict_keyiterator_next
    (wpAny_call_entry F.slot_dict_keyiterator_next hit.typeIs F.entry_dict_keyiterator_next ?_ (F.args_dict_keyiterator_next_1 _))))
  refine wpAny_bind (wpAny_pure ?_)
  refine wpAny_bind ?_
  refine wpAny_bind ?_
  first | refine wpAny_bind (wpAny_typeNameOfWhole_keyiter hit.typeIs (wpAny_pure ?_)) | refine wpAny_bind (wpAny_typeNameOf_keyiter hit.typeIs (wpAny_pure ?_))
  refine wpAny_bind (wpAny_fieldsOf ho hd ?_)
  have hown : Builtin.Dict_items.ownsTuple "dict_keyiterator" = false := by decide
  simp only [hown, Bool.false_eq_true, if_false]
  show wpAny _ _ (if (Value.ref d == Value.none) = true then _ else _) _ _ s
  rw [if_neg (show ¬ ((Value.ref d == Value.none) = true) from Bool.false_ne_true)]
  refine wpAny_bind (wpAny_pure ?_)
  refine wpAny_bind (wpAny_dictEntries hod hdd ?_)
  rw [if_neg (by rw [hsz]; simp)]
  refine wpAny_bind (wpAny_pure ?_)
  refine wpAny_bind (wpAny_dictEpoch hod hdd ?_)
  rw [if_neg (by simp)]
  refine wpAny_pure ?_
  obtain ⟨hlt', hen⟩ := Array.getElem?_eq_some_iff.mp hx
  simp only [show ¬ ((i : Int) < 0) from by omega, if_false, Int.toNat_natCast, Array.getElem?_eq_getElem hlt']
  refine wpAny_bind ?_
  first | refine wpAny_bind (wpAny_typeNameOfWhole_keyiter hit.typeIs (wpAny_pure ?_)) | refine wpAny_bind (wpAny_typeNameOf_keyiter hit.typeIs (wpAny_pure ?_))
  refine wpAny_bind (wpAny_isOneOf_keyiter hit.typeIs ?_)
  show wpAny _ _ (setField (.ref it) 1 (rawInt ((i : Int) + 1)) >>= _) _ _ s
  refine wpAny_bind (wpAny_setField ho hd (by simp) ?_)
  have hit' : (s.heap.update it (Obj.mapFields (·.setIfInBounds 1 (rawInt ((i : Int) + 1))))).IsKeyIter it d (i + 1) n ep :=
    ⟨_, Heap.get?_update_self _ ho (Obj.isFreed_of_fields (Obj.data_mapFields hd _)), (Obj.cls_mapFields ..).trans hc, by rw [Obj.data_mapFields hd]; simp [rawInt]⟩
  refine wpAny_bind (wpAny_holding ?_)
  refine wpAny_bind (wpAny_isOneOf_keyiter (s := { s with heap := s.heap.update it (Obj.mapFields (·.setIfInBounds 1 (rawInt ((i : Int) + 1)))) }) hit'.typeIs ?_)
  show wpAny _ _ (pure es[i].key) _ _ _
  rw [hen]
  exact wpAny_pure (wpAny_pure ⟨_, rfl, wpAny_pure (hQ _ hit' (Heap.SameBut.update ..))⟩)
theorem next_key_end {it d : Addr} {i n ep : Nat} {od : Obj} {es : Array DictEntry} {Q : Option Value → Shared → Prop} (hh : A.handled = none) (hit : s.heap.IsKeyIter it d i n ep) (hod : s.heap.get? d = some od) (hdd : od.data = .dict es ep)
    (hsz : es.size = n) (hge : n ≤ i) (hQ : ∀ h', Heap.ExtBut it s.heap h' → Q none { s with heap := h' }) : wpAny (model prog w) A (pyNext (.ref it)) Q E s := by
  obtain ⟨o, ho, hc, hd⟩ := id hit
  unfold pyNext
  refine wpAny_bind (wpAny_attempt (wpAny_callSpecial?_slot (name := Str.ofString "__next__") hit.typeIs F.slot_dict_keyiterator_next
    (wpAny_call_entry F.slot_dict_keyiterator_next hit.typeIs F.entry_dict_keyiterator_next ?_ (F.args_dict_keyiterator_next_1 _))))
  refine wpAny_bind (wpAny_pure ?_)
  refine wpAny_bind ?_
  refine wpAny_bind ?_
  first | refine wpAny_bind (wpAny_typeNameOfWhole_keyiter hit.typeIs (wpAny_pure ?_)) | refine wpAny_bind (wpAny_typeNameOf_keyiter hit.typeIs (wpAny_pure ?_))
  refine wpAny_bind (wpAny_fieldsOf ho hd ?_)
  have hown : Builtin.Dict_items.ownsTuple "dict_keyiterator" = false := by decide
  simp only [hown, Bool.false_eq_true, if_false]
  show wpAny _ _ (if (Value.ref d == Value.none) = true then _ else _) _ _ s
  rw [if_neg (show ¬ ((Value.ref d == Value.none) = true) from Bool.false_ne_true)]
  refine wpAny_bind (wpAny_pure ?_)
  refine wpAny_bind (wpAny_dictEntries hod hdd ?_)
  rw [if_neg (by rw [hsz]; simp)]
  refine wpAny_bind (wpAny_pure ?_)
  refine wpAny_bind (wpAny_dictEpoch hod hdd ?_)
  rw [if_neg (by simp)]
  refine wpAny_pure ?_
  have hge' : es.size ≤ i := by rw [hsz]; exact hge
  simp only [show ¬ ((i : Int) < 0) from by omega, if_false, Int.toNat_natCast, Array.getElem?_eq_none hge']
  refine wpAny_bind ?_
  first | refine wpAny_bind (wpAny_typeNameOfWhole_keyiter hit.typeIs (wpAny_pure ?_)) | refine wpAny_bind (wpAny_typeNameOf_keyiter hit.typeIs (wpAny_pure ?_))
  show wpAny _ _ (setField (.ref it) 0 .none >>= _) _ _ s
  refine wpAny_bind (wpAny_setField ho hd (by simp) ?_)
  show wpAny _ _ (newExc (.type "StopIteration") [] >>= _) _ _ _
  refine wpAny_bind ?_
  simp only [newExc, newTuple]
  refine wpAny_bind (wpAny_newObj_type ?_ (by size_fits))
  refine wpAny_bind (m := firstArgMember _ _) (wpAny_of_eq (a := Value.none) (by first | rfl | (simp only [firstArgMember]; rfl)) ?_)
  refine wpAny_newObj_type ?_ (by size_fits)
  simp only [raiseNew]
  refine wpAny_bind (wpAny_handled ?_)
  rw [show A.in1.handled = none from hh]
  refine wpAny_bind (wpAny_pure (wpAny_throw ?_))
  refine wpAny_bind (wpAny_isInstance (T := "StopIteration") (b := true) ⟨_, Heap.get?_push_size _ rfl, rfl⟩ isSubtype_stop ?_)
  exact wpAny_pure (hQ _ (((Heap.SameBut.update ..).extBut.push _).push _))
end

/-! ### a locked dict -/
theorem kv_get {κ : Type} {kvs : List (κ × V)} {vs : List (κ × Value)} (h : KV kvs vs) : ∀ {i : Nat} {k : κ} {v : V}, kvs[i]? = some (k, v) → ∃ u, vs[i]? = some (k, u) ∧ RelV v u := by
  unfold KV at h
  induction h with
  | nil => intro i k v e; simp at e
  | @cons a b l₁ l₂ r t ih =>
    intro i k v e
    cases i with
    | zero =>
      simp only [List.getElem?_cons_zero, Option.some.injEq] at e
      subst e
      refine ⟨b.2, ?_, r.2⟩
      simp only [List.getElem?_cons_zero]
      exact congrArg some (Prod.ext r.1.symm rfl)
    | succ j =>
      simp only [List.getElem?_cons_succ] at e ⊢
      exact ih e
theorem paired_get {α β : Type} {G : α → β → Prop} {l₁ : List α} {l₂ : List β} (h : Paired G l₁ l₂) : ∀ {i : Nat} {a : α}, l₁[i]? = some a → ∃ b, l₂[i]? = some b ∧ G a b := by
  induction h with
  | nil => intro i a e; simp at e
  | @cons a b l₁ l₂ r t ih =>
    intro i a' e
    cases i with
    | zero =>
      simp only [List.getElem?_cons_zero, Option.some.injEq] at e
      subst e
      exact ⟨b, rfl, r⟩
    | succ j =>
      simp only [List.getElem?_cons_succ] at e ⊢
      exact ih e
theorem relV_key {k : Key} {u : Value} (h : keyIs k u = true) : RelV (kV k) u := by
  rcases keyIs_shape h with ⟨i, t, rfl, rfl⟩ | ⟨x, t, rfl, rfl⟩
  · exact ⟨t, rfl⟩
  · exact ⟨t, rfl⟩
section
variable {X : Cx} {pins : List (Addr × Obj)} {σ : St} {H : Hp} {s : Shared} {d : Addr} {o : Obj}
theorem Inv.frzK {kvs : List (Key × V)} (I : Inv X pins σ H s) (h : H d = some (.frz o (.dK kvs))) :
    (d == sysModules) = false ∧ s.heap.get? d = some o ∧ o.ExactDict ∧ ∃ (es : Array DictEntry) (ep : Nat) (vs : List (Key × Value)), o.data = .dict es ep ∧ es.size = kvs.length ∧ KV kvs vs ∧ s.heap.DictAt (mixKind X.prog X.w) d vs ep := by
  obtain ⟨hd, z, hs, vs, kv, o', es, ep, ho, hx, hdt, r⟩ := I.hok d _ h
  rw [hd] at ho
  cases ho
  refine ⟨hs, hd, hx, es, ep, vs, hdt, ?_, kv, o, es, hd, hx, hdt, r⟩
  have l1 := r.2.1.length
  have l2 : kvs.length = vs.length := Paired.length kv
  rw [Array.length_toList] at l1
  omega
/-- the same for tuple keys -/
theorem Inv.frzT {kvs : List (List Key × V)} (I : Inv X pins σ H s) (h : H d = some (.frz o (.dT kvs))) :
    (d == sysModules) = false ∧ s.heap.get? d = some o ∧ o.ExactDict ∧ ∃ (es : Array DictEntry) (ep : Nat), o.data = .dict es ep ∧ es.size = kvs.length ∧
      ∀ (i : Nat) (k : List Key) (v : V), kvs[i]? = some (k, v) → ∃ (en : DictEntry) (q : Addr), es[i]? = some en ∧ en.key = .ref q ∧ H q = some (.tup (k.map kV)) := by
  obtain ⟨hd, z, hs, xs, pr, o', es, ep, ho, hx, hdt, he, _⟩ := I.hok d _ h
  rw [hd] at ho
  cases ho
  refine ⟨hs, hd, hx, es, ep, hdt, ?_, fun i k v e => ?_⟩
  · have l1 : es.size = xs.length := size_of_entries he
    have l2 : kvs.length = xs.length := Paired.length pr
    omega
  · obtain ⟨b, hb, e1, e2, _⟩ := paired_get pr e
    have q := entry_at he i
    rw [hb] at q
    exact ⟨_, b.2.1, q, rfl, e2⟩
end

/-- the keys of the locked dict at d, in their order -/
def Itk (d : Addr) (o : Obj) (kvs : List (Key × V)) : It :=
  ⟨fun i H => H d = some (.frz o (.dK kvs)) ∧ i < kvs.length, fun i H x H' => H' = H ∧ ∃ k v, kvs[i]? = some (k, v) ∧ x = kV k, fun i H => H d = some (.frz o (.dK kvs)) ∧ kvs.length ≤ i⟩
/-- .. of tuple keys: the key's own tuple -/
def Itkt (d : Addr) (o : Obj) (kvs : List (List Key × V)) : It :=
  ⟨fun i H => H d = some (.frz o (.dT kvs)) ∧ i < kvs.length, fun i H x H' => H' = H ∧ ∃ (k : List Key) (v : V) (q : Addr), kvs[i]? = some (k, v) ∧ x = .ref q ∧ H q = some (.tup (k.map kV)), fun i H => H d = some (.frz o (.dT kvs)) ∧ kvs.length ≤ i⟩
theorem dict_ep {o : Obj} {es es' : Array DictEntry} {ep ep' : Nat} (h : o.data = .dict es ep) (h' : o.data = .dict es' ep') : es' = es ∧ ep' = ep := by
  rw [h] at h'
  cases h'
  exact ⟨rfl, rfl⟩
section
variable {P : Program} {w : World} {K : PySem.W.Frag} {tg : Expr} {d : Addr} {o : Obj} {es : Array DictEntry} {ep : Nat}
theorem turn_keys {kvs : List (Key × V)} (it : Addr) (hod : o.data = .dict es ep) : Turn P w K tg (Itk d o kvs) [it] it (fun i h => h.IsKeyIter it d i kvs.length ep) where
  mem := by simp
  obj := fun i h st b hb => by
    have e : b = it := by simpa using hb
    subst e
    obtain ⟨oi, e, c, dd⟩ := st
    exact ⟨oi, e, fun v z => by rw [dd] at z; cases z⟩
  keep := fun i h h' st k => st.at fun oi e => k it (by simp) oi e
  item := by
    intro X hP hw hK hc i pins s σ H E I hf st hg
    subst hP hw hK
    obtain ⟨hd, hi⟩ := hg
    obtain ⟨f0, f1, f2, f3, f4, f5⟩ := hf it (by simp)
    obtain ⟨hs, hgd, hx, es', ep', vs, hdt, hsz, kv, hm⟩ := I.frzK hd
    obtain ⟨rfl, rfl⟩ := dict_ep hod hdt
    obtain ⟨⟨k, v⟩, hkv⟩ : ∃ p, kvs[i]? = some p := ⟨kvs[i], List.getElem?_eq_getElem hi⟩
    obtain ⟨u, hu, ru⟩ := kv_get kv hkv
    have hl : kvs.length = vs.length := Paired.length kv
    rw [hl] at st
    refine wpAny_pyNext_dict_item st hm hu fun key h' hkey st' sb => ?_
    have I1 : Inv X pins σ H { s with heap := h' } := I.turned (t' := s.toks) (fun b ob hb e => (sb.2 b hb).trans e) f0 f1 f3 f4 f5
    obtain ⟨oi, e, c, dd⟩ := id st'
    refine ⟨key, rfl, go_of (s := { s with heap := h' }) e c dd (by decide) ⟨kV k, H, I1, relV_key (show keyIs k key = true from hkey), ⟨rfl, k, v, hkv, rfl⟩, ?_, fun b hb => (hf b hb).1⟩⟩
    show h'.IsKeyIter it d (i + 1) kvs.length _
    rw [hl]
    exact st'
  done := by
    intro X hP hw hK hc i pins s σ H E I hf st hg
    subst hP hw hK
    obtain ⟨hd, hi⟩ := hg
    obtain ⟨f0, f1, f2, f3, f4, f5⟩ := hf it (by simp)
    obtain ⟨hs, hgd, hx, es', ep', vs, hdt, hsz, kv, hm⟩ := I.frzK hd
    obtain ⟨rfl, rfl⟩ := dict_ep hod hdt
    exact next_key_end (I.ok.hd hc) st hgd hdt hsz hi fun h' eb => ⟨rfl, I.turned (t' := s.toks) (fun b ob hb e => eb b ob hb e) f0 f1 f3 f4 f5⟩
  self := fun A i s Q E st h => wpAny_pyIter_keyiter st h
theorem turn_keysT {kvs : List (List Key × V)} (it : Addr) (hod : o.data = .dict es ep) : Turn P w K tg (Itkt d o kvs) [it] it (fun i h => h.IsKeyIter it d i kvs.length ep) where
  mem := by simp
  obj := fun i h st b hb => by
    have e : b = it := by simpa using hb
    subst e
    obtain ⟨oi, e, c, dd⟩ := st
    exact ⟨oi, e, fun v z => by rw [dd] at z; cases z⟩
  keep := fun i h h' st k => st.at fun oi e => k it (by simp) oi e
  item := by
    intro X hP hw hK hc i pins s σ H E I hf st hg
    subst hP hw hK
    obtain ⟨hd, hi⟩ := hg
    obtain ⟨f0, f1, f2, f3, f4, f5⟩ := hf it (by simp)
    obtain ⟨hs, hgd, hx, es', ep', hdt, hsz, ent⟩ := I.frzT hd
    obtain ⟨rfl, rfl⟩ := dict_ep hod hdt
    obtain ⟨⟨k, v⟩, hkv⟩ : ∃ p, kvs[i]? = some p := ⟨kvs[i], List.getElem?_eq_getElem hi⟩
    obtain ⟨en, q, hen, hkey, hq⟩ := ent i k v hkv
    refine next_key_item st hgd hdt hsz hen fun h' st' sb => ?_
    have I1 : Inv X pins σ H { s with heap := h' } := I.turned (t' := s.toks) (fun b ob hb e => (sb.2 b hb).trans e) f0 f1 f3 f4 f5
    obtain ⟨oi, e, c, dd⟩ := id st'
    exact ⟨en.key, rfl, go_of (s := { s with heap := h' }) e c dd (by decide) ⟨.ref q, H, I1, hkey, ⟨rfl, k, v, q, hkv, rfl, hq⟩, st', fun b hb => (hf b hb).1⟩⟩
  done := by
    intro X hP hw hK hc i pins s σ H E I hf st hg
    subst hP hw hK
    obtain ⟨hd, hi⟩ := hg
    obtain ⟨f0, f1, f2, f3, f4, f5⟩ := hf it (by simp)
    obtain ⟨hs, hgd, hx, es', ep', hdt, hsz, ent⟩ := I.frzT hd
    obtain ⟨rfl, rfl⟩ := dict_ep hod hdt
    exact next_key_end (I.ok.hd hc) st hgd hdt hsz hi fun h' eb => ⟨rfl, I.turned (t' := s.toks) (fun b ob hb e => eb b ob hb e) f0 f1 f3 f4 f5⟩
  self := fun A i s Q E st h => by
    refine wpAny_pyIter_slot st.typeIs F.slot_dict_keyiterator_iter (wpAny_call_entry F.slot_dict_keyiterator_iter st.typeIs F.entry_dict_keyiterator_iter ?_ (F.args_dict_keyiterator_iter_1 _))
    show wpAny _ _ (ret (.ref it)) _ _ s
    exact wpAny_pure ⟨_, rfl, "dict_keyiterator", _, st.typeIs, F.slot_dict_keyiterator_next.lookup, h⟩
end

/-! ### for k in d, d.keys(), d.values(), d.items() -/
/-- the dict is locked (tLock, or by the caller) -/
def iKeys (td : TE) : TI := fun σ H R => td σ H fun x H1 => ∃ d o, x = .ref d ∧ ((∃ kvs, H1 d = some (.frz o (.dK kvs)) ∧ R (Itk d o kvs) H1) ∨ ∃ kvs, H1 d = some (.frz o (.dT kvs)) ∧ R (Itkt d o kvs) H1)
section
variable {X : Cx} {tg e : Expr} {td : TE} {apos cpos : Pos}
theorem pi_keys (he : PE X e td) : PI X tg e (iKeys td) := by
  intro pins s σ H R I h
  refine thn (he pins s σ H _ I h) fun u s1 ⟨x, H1, I1, rx, d, o, ex, q⟩ => ?_
  subst ex
  obtain rfl : u = Value.ref d := rx
  rcases q with ⟨kvs, hd, q⟩ | ⟨kvs, hd, q⟩
  · obtain ⟨hs, hgd, hx, es, ep, vs, hdt, hsz, kv, hm⟩ := I1.frzK hd
    refine iter_keys hs hgd hx hdt (pi_one (tk := s1.toks) I1 _ (turn_keys _ hdt) ⟨_, Heap.get?_push_size _ rfl, rfl, ?_⟩ q)
    rw [hsz] <;> rfl
  · obtain ⟨hs, hgd, hx, es, ep, hdt, hsz, ent⟩ := I1.frzT hd
    refine iter_keys hs hgd hx hdt (pi_one (tk := s1.toks) I1 _ (turn_keysT _ hdt) ⟨_, Heap.get?_push_size _ rfl, rfl, ?_⟩ q)
    rw [hsz] <;> rfl
end

/-! ### enumerate(list) -/
/-! ### zip(list, list) -/
end L2

section 
namespace Bits
open PySem PyProof.Rows

end Bits
end 

section 
namespace TL
open PySem PySem.Builtin PySem.Builtin.Str PySem.StrLaws

/-! ### the list functions -/
/-! ### the model's split and partition are these -/
/-! ### computing spl and par -/
/-! ### digits -/
/-! ### words: x.split() -/
end TL
end 

namespace L2
open PySem PySem.Spec PyProof.Rows

section
variable {X : Cx} {pins : List (Addr × Obj)} {σ : St} {H : Hp} {s : Shared} {Q : VK}
end

section
variable {X : Cx}

/-! ### of a text alone -/
/-! ### of a text and a text -/
end

section
variable {X : Cx} {o e : Expr} {to te : TE}
end
end L2

namespace L2
open PySem PySem.Spec PyProof.Rows

section
variable {X : Cx}
end

/-! ### slices of a text -/
end L2

namespace Att
open PySem PySem.W PySem.Calls PyProof.Rows

/-! ### the script -/
theorem ints_of_wellAll {P : Params} {h : Heap} : ∀ (ns : List Int) (vs : List Value), WellAll P h vs (ns.map WData.int) → IntsAre vs ns := by
  intro ns
  induction ns with
  | nil =>
    intro vs w
    rw [List.map_nil] at w
    cases w
    exact .nil
  | cons n ns ih =>
    intro vs w
    rw [List.map_cons] at w
    cases w with
    | cons a b =>
      cases a
      exact .cons _ _ (ih _ b)

/-! ### the attachment: holds_open's last premise (the goal 'hc' behind k_head) from a wpAny of the law's body -/
/-! ### rules over ANY heap (no ledger) from facts about the written part K: the library's own take a ledger (News) for what they write -/
section
variable {prog : Program} {w : World} {A : Around} {E : Value → Shared → Prop} {s : Shared} {K : Frag}

/-! the whole heap as the ledger: makes every rule that writes through a ledger a rule over any heap -/
end
end Att

namespace L2
open PySem PySem.Spec PyProof.Rows

theorem vals_ints : ∀ {vs : List Value} {ns : List Int}, IntsAre vs ns → Vals (ns.map V.int) vs
  | _, _, .nil => .nil
  | _, _, .cons n t h => .cons ⟨t, rfl⟩ (vals_ints h)

/-- nothing is tracked but the script, known to the object (or it is an object of the module) -/
def Only (H : Hp) : Prop := ∀ b, H b = none ∨ ∃ o xs, H b = some (.frz o (.lst xs))

end L2

namespace L2
open PySem PySem.Spec PyProof.Rows

end L2

/- THE LAST THEOREM (shape; LID, My.* are yours):
   My.Adr: a structure of the addresses that your layer names (classes, functions); My.Txt K t: a structure (Prop) of the equations over K;
   My.txt_mk : {K} {implicit addresses ..} (e1 : nsIn K mainGlobals "law" = some (some (.ref f))) (e2 : K.lookup f = some ⟨oc, od, .func (fnOf "law" "law" params body scope dV kV doc pm an cdv ct), sl⟩) (e3 : codeIn K cdv "law" = true) .. : ∃ t, My.Txt K t

set_option maxRecDepth 100000 in
set_option maxHeartbeats 0 in
theorem PySem.Challenge.cw_LID_holds : PySem.Challenge.rw_LID.Holds := by
  w_on; o_law; k_head; (case hw => w_witness2)
  k_fill
  refine L2.walk_of (l := PySem.Challenge.rw_LID) (n := 63) (k := 40) (x := "script") (CX := fun w => ..) (sp := fun _ => My.sp_law) rfl (by decide) rfl ⟨rfl, by decide, by decide⟩ (fun w h Y => PySem.W.kIn_of Y) ?F ?S ?C
  case F =>
    intro w mg fa h KX G hmg
    have T : ∃ t, My.Txt (L2.KOf KX) t := by
      dsimp only [L2.KOf]                          -- K must stand as «<heap const> w.params» for k_is
      refine' My.txt_mk ?e1 ?e2 ?e3 ..
      (case e1 => PySem.W.k_is)                    -- in the order: a name -> its address -> its object -> its parts
      (case e2 => PySem.W.k_is)
      ..
    obtain ⟨t, T⟩ := T
    have e0 := hmg.symm.trans (PySem.W.mg_of KX G T.law)
    cases e0                                       -- fa is the law's own address
    exact ⟨_, fun s u => .of_eq rfl, fun base kb nb => My.law_fn T kb nb⟩     -- if «.of_eq rfl» comes too early: refine' ⟨_, ?b, fun base kb nb => My.law_fn T kb nb⟩; exact fun s u => .of_eq rfl
  case S => exact fun w H a ns hl hO hS => ..
  case C => exact ..
(the tactic k_is has no namespace: write k_is) -/

/-! SHORT WORDS over the layer: a def of the text, its body, what a loop and a test want. -/
namespace L2
open PySem PySem.Spec PyProof.Rows

/-! ### the text by places -/
/-- the j-th statement of a class's body -/
def inClass (s : Stmt) (j : Nat) : Stmt := match s with
  | .ClassDef _ _ _ body _ _ _ _ _ _ _ => body.getD j (.Pass ⟨0, 0, 0, 0⟩)
  | _ => .Pass ⟨0, 0, 0, 0⟩
def defArgs (s : Stmt) : Arguments := match s with
  | .FunctionDef _ a _ _ _ _ _ _ _ _ => a
  | _ => { posonlyargs := [], args := [], vararg := none, kwonlyargs := [], kw_defaults := [], kwarg := none, defaults := [] }
def defBody (s : Stmt) : List Stmt := match s with
  | .FunctionDef _ _ b _ _ _ _ _ _ _ => b
  | _ => []
def defScope (s : Stmt) : Scope := match s with
  | .FunctionDef _ _ _ _ _ _ sc _ _ _ => sc
  | _ => { kind := .function, names := [], isGenerator := false, isCoroutine := false }

/-! ### no exception leaves a def -/
abbrev CX0 : CXT := fun _ _ _ _ _ _ => False
abbrev E0 : XK := fun _ _ _ => False
theorem pass0 {X : Cx} : Passes CX0 X E0 := fun _ _ _ _ _ _ _ h => h.elim

/-! ### a def (or method) of the text as it stands behind the top -/
structure Fun (K : PySem.W.Frag) (x qual : Str) (st : Stmt) (f : Addr) (fd : FuncData) : Prop where
  ex : ∃ (oc : Value) (od : Option Addr) (kV doc pm : Value) (an : Option Addr) (cdv ct : Value) (osl : Array (Option Value)),
    fd = PySem.W.fnOf x qual (defArgs st) (defBody st) (defScope st) .none kV doc pm an cdv ct ∧ K.lookup f = some ⟨oc, od, .func fd, osl⟩ ∧ PySem.W.codeIn K cdv qual = true
  kp : PySem.W.keepIn K (.ref f) = true
section
variable {P : Program} {w : World} {K : PySem.W.Frag} {mg : Str → Option Value} {base : Heap}
/-- THE RULE for a def: its body as a term of rules, and the reading of that term -/
theorem Fun.ok {x qual : Str} {st : Stmt} {f : Addr} {fd : FuncData} {N ps : List Str} {k : Nat} {sp : Sp} (F : Fun K x qual st f fd) (S : FnScope N ps (defScope st)) (len : ∀ vs H Q E, sp vs H Q E → vs.length = ps.length)
    (hbody : ∀ (cdv : Value) (A : Around) (outer : List Env) (s : Shared) (H : Hp) (vs : List V) (Q : VK) (E : XK), Room k (A.deeper (envOfC qual (defScope st) s.heap.objs.size f cdv)) → sp vs H Q E →
      ∃ t, PSs (cxOf CX0 P w K mg base N qual (defScope st) f cdv A outer s H E).nox (defBody st) t ∧ t { nx := fun _ H' => Q .non H', rt := Q } (start N vs) H) : FnOk P w K mg base CX0 (k + 1) f fd ps sp := by
  obtain ⟨oc, od, kV, doc, pm, an, cdv, ct, osl, rfl, lk, hcd⟩ := F.ex
  refine fn_of lk hcd S len fun A outer s H vs Q E hr hsp => ?_
  obtain ⟨t, h, q⟩ := hbody cdv A outer s H vs Q E hr hsp
  exact ⟨t, h.nox, q⟩
/-- how its arguments bind (no defaults): h is «fun _ _ _ _ _ _ us hl => match us, hl with | [_, _], _ => rfl», one _ a parameter -/
theorem Fun.binds {x qual : Str} {st : Stmt} {f : Addr} {fd : FuncData} {ps : List Str} (F : Fun K x qual st f fd)
    (h : ∀ (kV doc pm : Value) (an : Option Addr) (cdv ct : Value) (us : List Value), us.length = ps.length → bindArgs (PySem.W.fnOf x qual (defArgs st) (defBody st) (defScope st) .none kV doc pm an cdv ct) ⟨us, []⟩ = pure (ps.zip us)) : Binds K fd ps [] := by
  obtain ⟨oc, od, kV, doc, pm, an, cdv, ct, osl, rfl, lk, hcd⟩ := F.ex
  exact .all (h kV doc pm an cdv ct)
theorem fun_mk {x qual : Str} {st : Stmt} {f : Addr} {oc : Value} {od an : Option Addr} {osl : Array (Option Value)} {kV doc pm cdv ct : Value} (l : K.lookup f = some ⟨oc, od, .func (PySem.W.fnOf x qual (defArgs st) (defBody st) (defScope st) .none kV doc pm an cdv ct), osl⟩)
    (c : PySem.W.codeIn K cdv qual = true) (k : PySem.W.keepIn K (.ref f) = true) : Fun K x qual st f (PySem.W.fnOf x qual (defArgs st) (defBody st) (defScope st) .none kV doc pm an cdv ct) := ⟨⟨oc, od, kV, doc, pm, an, cdv, ct, osl, rfl, l, c⟩, k⟩
end
theorem hu_of {A : Around} {k : Nat} (hr : Room k A) : A.units + 1 < cLine := Nat.lt_of_le_of_lt (Nat.add_le_add_left (by decide : 1 ≤ 64) _) hr.units
/-! ### expressions in short: the name that stands in the i-th slot -/
section
variable {X : Cx}
theorem pv (i : Nat) {x : Str} {pos : Pos} (hN : X.N[i]? = some x := by rfl) (hv : Vis X.env.scope x := by first | exact Or.inl rfl | exact Or.inr (Or.inl rfl) | exact Or.inr (Or.inr rfl)) (hd : (x == ("__debug__" : Str)) = false := by decide)
    (hcd : (x == ("__classdict__" : Str)) = false := by decide) : PE X (.Name x pos) (tVar i) := pe_var hN hv hd hcd
end

/-! ### tests -/
theorem iteF {A B : Prop} (h : B) : if false = true then A else B := by
  rw [if_neg Bool.false_ne_true]
  exact h
theorem iteT {A B : Prop} (h : A) : if true = true then A else B := by
  rw [if_pos rfl]
  exact h
theorem ite2 {c A B : Prop} [Decidable c] (h1 : c → A) (h2 : ¬ c → B) : if c then A else B := by
  by_cases h : c
  · rw [if_pos h]
    exact h1 h
  · rw [if_neg h]
    exact h2 h
/-! ### heaps -/
/-- all that was tracked is as it was -/
def Same (H H' : Hp) : Prop := ∀ b o, H b = some o → H' b = some o
theorem Same.refl (H : Hp) : Same H H := fun _ _ h => h
theorem Same.trans {H H1 H2 : Hp} (a : Same H H1) (b : Same H1 H2) : Same H H2 := fun c o h => b c o (a c o h)
theorem Same.free {H H' : Hp} (e : Same H H') {l : Addr} (h : H' l = Option.none) : H l = Option.none := by
  cases q : H l with
  | none => rfl
  | some o =>
    rw [e l o q] at h
    cases h
theorem Same.seq {K : PySem.W.Frag} {H H' : Hp} {a : Addr} {xs : List V} (e : Same H H') (h : SqL K H a xs) : SqL K H' a xs := by
  rcases h with (h | ⟨o, h⟩) | h
  · exact .inl (.inl (e _ _ h))
  · exact .inl (.inr ⟨o, e _ _ h⟩)
  · exact .inr h

/-! ### a dict's pairs: keys that differ -/
section
variable {κ : Type} [DecidableEq κ]
theorem nd_snoc : ∀ {l : List κ} {k : κ}, l.Nodup → ¬ k ∈ l → (l ++ [k]).Nodup
  | [], k, _, _ => by simp
  | a :: r, k, h, hk => by
    obtain ⟨h1, h2⟩ := List.nodup_cons.mp h
    show (a :: (r ++ [k])).Nodup
    refine List.nodup_cons.mpr ⟨fun m => ?_, nd_snoc h2 fun m => hk (List.mem_cons.mpr (Or.inr m))⟩
    rcases List.mem_append.mp m with q | q
    · exact h1 q
    · exact hk (List.mem_cons.mpr (Or.inl (List.mem_singleton.mp q).symm))
end
/-! ### lists -/
theorem at_of {xs : List V} {z : Int} {j : Nat} {v : V} (e : z = (j : Int)) (h : xs[j]? = some v) : atI xs z = some v := by
  rw [e]
  exact atI_nat h
theorem nd_ix {α : Type} {l : List α} (hN : l.Nodup) {i j : Nat} {x : α} (a : l[i]? = some x) (b : l[j]? = some x) : i = j := by
  obtain ⟨h1, e1⟩ := List.getElem?_eq_some_iff.mp a
  obtain ⟨h2, e2⟩ := List.getElem?_eq_some_iff.mp b
  exact (List.getElem_inj hN).mp (e1.trans e2.symm)
end L2
namespace Rs
open Si24

/-! ### a growing chain over n places comes to rest within n steps -/
def cnt (f : Nat → Bool) : Nat → Nat
  | 0 => 0
  | n + 1 => cnt f n + (if f n = true then 1 else 0)
theorem cnt_le (f : Nat → Bool) : ∀ n, cnt f n ≤ n
  | 0 => Nat.le_refl _
  | n + 1 => by
    have h := cnt_le f n
    show cnt f n + (if f n = true then 1 else 0) ≤ n + 1
    split <;> omega
theorem cnt_mono {f g : Nat → Bool} : ∀ n, (∀ k, k < n → f k = true → g k = true) → cnt f n ≤ cnt g n
  | 0, _ => Nat.le_refl _
  | n + 1, h => by
    have ih := cnt_mono n fun k hk => h k (by omega)
    have hn := h n (by omega)
    show cnt f n + (if f n = true then 1 else 0) ≤ cnt g n + (if g n = true then 1 else 0)
    by_cases e : f n = true
    · rw [if_pos e, if_pos (hn e)]; omega
    · rw [if_neg e]; split <;> omega
theorem cnt_lt {f g : Nat → Bool} {j : Nat} : ∀ n, (∀ k, k < n → f k = true → g k = true) → j < n → f j = false → g j = true → cnt f n < cnt g n
  | 0, _, hj, _, _ => by omega
  | n + 1, h, hj, h1, h2 => by
    show cnt f n + (if f n = true then 1 else 0) < cnt g n + (if g n = true then 1 else 0)
    by_cases e : j = n
    · subst e
      have ih := cnt_mono j fun k hk => h k (by omega)
      rw [h1, h2, if_pos rfl, if_neg (by decide)]; omega
    · have ih := cnt_lt n (fun k hk => h k (by omega)) (by omega) h1 h2
      have hn := h n (by omega)
      by_cases e : f n = true
      · rw [if_pos e, if_pos (hn e)]; omega
      · rw [if_neg e]; split <;> omega
theorem cnt_full {f : Nat → Bool} : ∀ n, n ≤ cnt f n → ∀ k, k < n → f k = true
  | 0, _, k, hk => by omega
  | n + 1, h, k, hk => by
    have h' : n + 1 ≤ cnt f n + (if f n = true then 1 else 0) := h
    have hl := cnt_le f n
    by_cases e : f n = true
    · rw [if_pos e] at h'
      by_cases q : k = n
      · subst q; exact e
      · exact cnt_full n (by omega) k (by omega)
    · rw [if_neg e] at h'; omega

section
variable {n : Nat} {f : Nat → Nat → Bool}
def Rest (n : Nat) (f : Nat → Nat → Bool) (i : Nat) : Prop := ∀ k, k < n → f (i + 1) k = f i k
theorem rest_on (stab : ∀ i, Rest n f i → Rest n f (i + 1)) {i : Nat} (h : Rest n f i) : ∀ d k, k < n → f (i + d) k = f i k := by
  have all : ∀ d, Rest n f (i + d) := fun d => by
    induction d with
    | zero => exact h
    | succ d ih => exact stab _ ih
  intro d
  induction d with
  | zero => exact fun k _ => rfl
  | succ d ih => exact fun k hk => (all d k hk).trans (ih k hk)
theorem rest_some (mono : ∀ i k, f i k = true → f (i + 1) k = true) : ∃ i, i ≤ n ∧ Rest n f i := by
  have grow : ∀ i, (∃ j, j < i ∧ Rest n f j) ∨ i ≤ cnt (f i) n := fun i => by
    induction i with
    | zero => exact .inr (Nat.zero_le _)
    | succ i ih =>
      rcases ih with ⟨j, hj, r⟩ | h
      · exact .inl ⟨j, by omega, r⟩
      · by_cases r : Rest n f i
        · exact .inl ⟨i, by omega, r⟩
        · refine .inr ?_
          have : ∃ k, k < n ∧ ¬ f (i + 1) k = f i k := Classical.byContradiction fun z => r fun k hk => Classical.byContradiction fun q => z ⟨k, hk, q⟩
          obtain ⟨k, hk, q⟩ := this
          have e1 : f i k = false := by
            cases e : f i k with
            | false => rfl
            | true => exact absurd ((mono i k e).trans e.symm) q
          have e2 : f (i + 1) k = true := by
            cases e : f (i + 1) k with
            | true => rfl
            | false => exact absurd (e.trans e1.symm) q
          have := cnt_lt n (fun k _ => mono i k) hk e1 e2
          omega
  rcases grow n with ⟨j, hj, r⟩ | h
  · exact ⟨j, by omega, r⟩
  · exact ⟨n, Nat.le_refl _, fun k hk => by rw [cnt_full n h k hk]; exact mono n k (cnt_full n h k hk)⟩
/-- from n on nothing changes -/
theorem chain (mono : ∀ i k, f i k = true → f (i + 1) k = true) (stab : ∀ i, Rest n f i → Rest n f (i + 1)) {i : Nat} (hi : n ≤ i) {k : Nat} (hk : k < n) : f i k = f n k := by
  obtain ⟨j, hj, r⟩ := rest_some mono
  have a := rest_on stab r (i - j) k hk
  have b := rest_on stab r (n - j) k hk
  rw [show j + (i - j) = i by omega] at a
  rw [show j + (n - j) = n by omega] at b
  rw [a, b]
end

/-! ### who is ready -/
/-- what a member shows where R tells the ready sets -/
def showsR (s : St) (R : Nat → Bool) (m : Member) : Nat :=
  if SOURCES ≤ m.src then (if R (m.src - SOURCES) = true then 1 &&& m.watched else 0)
  else if m.sleeps = true then 0 else if m.mode = .edge then m.risen &&& m.watched else s.levels.getD m.src 0 &&& m.watched
theorem shows_eq (s : St) (f : Nat) (m : Member) : shows s f m = showsR s (ready s f) m := by
  unfold shows showsR; rfl
theorem ready_zero (s : St) (k : Nat) : ready s 0 k = false := by unfold ready; rfl
/-- one round -/
def rdy (s : St) (R : Nat → Bool) (k : Nat) : Bool := (s.members k).any fun m => showsR s R m != 0
theorem ready_succ (s : St) (f k : Nat) : ready s (f + 1) k = rdy s (ready s f) k := by
  unfold ready rdy
  refine congrArg (fun p => List.any _ p) ?_
  funext m
  rw [shows_eq]
theorem showsR_mono {s : St} {R T : Nat → Bool} (h : ∀ k, R k = true → T k = true) {m : Member} (e : showsR s R m ≠ 0) : showsR s T m ≠ 0 := by
  unfold showsR at e ⊢
  split at e
  · rename_i q
    rw [if_pos q]
    split at e
    · rename_i r; rw [if_pos (h _ r)]; exact e
    · exact absurd rfl e
  · rename_i q
    rw [if_neg q]; exact e
theorem rdy_mono {s : St} {R T : Nat → Bool} (h : ∀ k, R k = true → T k = true) {k : Nat} (e : rdy s R k = true) : rdy s T k = true := by
  unfold rdy at e ⊢
  rw [List.any_eq_true] at e ⊢
  obtain ⟨m, hm, q⟩ := e
  refine ⟨m, hm, ?_⟩
  rw [bne_iff_ne] at q ⊢
  exact showsR_mono h q
theorem ready_mono (s : St) : ∀ f k, ready s f k = true → ready s (f + 1) k = true
  | 0, k, h => by rw [ready_zero] at h; cases h
  | f + 1, k, h => by
    rw [ready_succ] at h ⊢
    exact rdy_mono (fun k => ready_mono s f k) h
theorem members_out {s : St} {k : Nat} (h : s.sets.length ≤ k) : s.members k = [] := by
  unfold St.members
  rw [List.getElem?_eq_none h]; rfl
theorem ready_out {s : St} {k : Nat} (h : s.sets.length ≤ k) : ∀ f, ready s f k = false
  | 0 => ready_zero s k
  | f + 1 => by rw [ready_succ]; unfold rdy; rw [members_out h]; rfl
theorem ready_rest {s : St} {f : Nat} (h : ∀ k, k < s.sets.length → ready s (f + 1) k = ready s f k) : ready s (f + 1) = ready s f := by
  funext k
  by_cases hk : k < s.sets.length
  · exact h k hk
  · rw [ready_out (by omega), ready_out (by omega)]
theorem ready_stab {s : St} {i : Nat} (h : Rest s.sets.length (ready s) i) : Rest s.sets.length (ready s) (i + 1) := fun k hk => by
  rw [ready_succ, ready_succ s i, ready_rest h]
/-- where one round finds nobody new, it is what is meant by ready -/
theorem ready_final {s : St} (hl : s.sets.length ≤ 16) {r : Nat} (h : ∀ k, k < s.sets.length → ready s (r + 1) k = ready s r k) (k : Nat) : s.isReady k = ready s r k := by
  show ready s (16 + 1) k = ready s r k
  by_cases hk : k < s.sets.length
  · have a := rest_on (n := s.sets.length) (f := ready s) (fun i => ready_stab) h
    by_cases q : r ≤ 17
    · have := a (17 - r) k hk
      rw [show r + (17 - r) = 17 by omega] at this
      exact this
    · rw [chain (ready_mono s) (fun i => ready_stab) (i := 16 + 1) (by omega) hk, chain (ready_mono s) (fun i => ready_stab) (i := r) (by omega) hk]
  · rw [ready_out (by omega), ready_out (by omega)]
/-- what is shown goes by who is ready -/
theorem shown_eq {s : St} (hl : s.sets.length ≤ 16) (m : Member) : s.shown m = showsR s s.isReady m := by
  show shows s 16 m = _
  rw [shows_eq]
  have e : ready s 16 = s.isReady := by
    funext k
    show ready s 16 k = ready s 17 k
    by_cases hk : k < s.sets.length
    · rw [chain (ready_mono s) (fun i => ready_stab) (i := 17) (by omega) hk, chain (ready_mono s) (fun i => ready_stab) (i := 16) (by omega) hk]
    · rw [ready_out (by omega), ready_out (by omega)]
  rw [e]
theorem isReady_eq {s : St} (hl : s.sets.length ≤ 16) (k : Nat) : s.isReady k = rdy s s.isReady k := by
  show ready s (16 + 1) k = _
  rw [ready_succ]
  have e : ready s 16 = s.isReady := by
    funext k
    show ready s 16 k = ready s 17 k
    by_cases hk : k < s.sets.length
    · rw [chain (ready_mono s) (fun i => ready_stab) (i := 17) (by omega) hk, chain (ready_mono s) (fun i => ready_stab) (i := 16) (by omega) hk]
    · rw [ready_out (by omega), ready_out (by omega)]
  rw [e]

/-! ### a set in a set -/
def kids (s : St) (k : Nat) : List Nat := ((s.members k).filter fun m => decide (SOURCES ≤ m.src)).map fun m => m.src - SOURCES
theorem inside_zero (s : St) (a b : Nat) : inside s 0 a b = false := by unfold inside; rfl
theorem inside_iff (s : St) (f a b : Nat) : inside s (f + 1) a b = true ↔ a = b ∨ ∃ y ∈ kids s a, inside s f y b = true := by
  have e0 : inside s (f + 1) a b = (a == b || (s.members a).any fun m => decide (SOURCES ≤ m.src) && inside s f (m.src - SOURCES) b) := by rw [inside]
  unfold kids
  rw [e0, Bool.or_eq_true, beq_iff_eq, List.any_eq_true]
  constructor
  · rintro (e | ⟨m, hm, q⟩)
    · exact .inl e
    · rw [Bool.and_eq_true, decide_eq_true_eq] at q
      exact .inr ⟨m.src - SOURCES, List.mem_map.mpr ⟨m, List.mem_filter.mpr ⟨hm, decide_eq_true q.1⟩, rfl⟩, q.2⟩
  · rintro (e | ⟨y, hy, q⟩)
    · exact .inl e
    · obtain ⟨m, hm, e⟩ := List.mem_map.mp hy
      obtain ⟨h1, h2⟩ := List.mem_filter.mp hm
      refine .inr ⟨m, h1, ?_⟩
      rw [Bool.and_eq_true]
      exact ⟨h2, by rw [e]; exact q⟩
theorem inside_self (s : St) (f a : Nat) : inside s (f + 1) a a = true := (inside_iff s f a a).mpr (.inl rfl)
theorem inside_mono (s : St) : ∀ f a b, inside s f a b = true → inside s (f + 1) a b = true
  | 0, a, b, h => by rw [inside_zero] at h; cases h
  | f + 1, a, b, h => by
    rcases (inside_iff s f a b).mp h with e | ⟨y, hy, q⟩
    · exact (inside_iff s _ a b).mpr (.inl e)
    · exact (inside_iff s _ a b).mpr (.inr ⟨y, hy, inside_mono s f y b q⟩)
theorem inside_kid {s : St} {x y : Nat} (hy : y ∈ kids s x) : ∀ f a, inside s f a x = true → inside s (f + 1) a y = true
  | 0, a, h => by rw [inside_zero] at h; cases h
  | f + 1, a, h => by
    rcases (inside_iff s f a x).mp h with e | ⟨z, hz, q⟩
    · subst e
      exact (inside_iff s _ a y).mpr (.inr ⟨y, hy, inside_self s f y⟩)
    · exact (inside_iff s _ a y).mpr (.inr ⟨z, hz, inside_kid hy f z q⟩)
theorem kids_out {s : St} {k : Nat} (h : s.sets.length ≤ k) : kids s k = [] := by
  unfold kids; rw [members_out h]; rfl
theorem inside_all {s : St} {b : Nat} (hb : b < 16) (hl : s.sets.length ≤ 16) {n a : Nat} (h : inside s n a b = true) : inside s 16 a b = true := by
  have out : ∀ k, 16 ≤ k → ∀ i, inside s i k b = false := fun k hk i => by
    cases i with
    | zero => exact inside_zero s k b
    | succ i =>
      cases e : inside s (i + 1) k b with
      | false => rfl
      | true =>
        rcases (inside_iff s i k b).mp e with e | ⟨y, hy, _⟩
        · omega
        · rw [kids_out (by omega)] at hy; cases hy
  have stab : ∀ i, Rest 16 (fun i k => inside s i k b) i → Rest 16 (fun i k => inside s i k b) (i + 1) := fun i r k hk => by
    have r' : ∀ y, inside s (i + 1) y b = inside s i y b := fun y => by
      by_cases hy : y < 16
      · exact r y hy
      · rw [out y (by omega), out y (by omega)]
    show inside s (i + 1 + 1) k b = inside s (i + 1) k b
    refine Bool.eq_iff_iff.mpr ?_
    rw [inside_iff, inside_iff]
    simp only [r']
  by_cases ha : a < 16
  · by_cases hn : 16 ≤ n
    · have := chain (n := 16) (f := fun i k => inside s i k b) (fun i k => inside_mono s i k b) stab hn ha
      exact this.symm.trans h
    · have up : ∀ d, inside s (n + d) a b = true := fun d => by
        induction d with
        | zero => exact h
        | succ d ih => exact inside_mono s _ a b ih
      have := up (16 - n)
      rw [show n + (16 - n) = 16 by omega] at this
      exact this
  · rw [out a (by omega)] at h; cases h
/-- what a closed row of places, each of them to be come by from a, tells -/
theorem inside_closed {s : St} {a b : Nat} (hb : b < 16) (hl : s.sets.length ≤ 16) (hab : a ≠ b) {S : List Nat} (h1 : ∀ x ∈ S, ∃ n, inside s n a x = true) (h2 : ∀ x, x = a ∨ x ∈ S → ∀ y ∈ kids s x, y ∈ S) :
    inside s 16 a b = decide (b ∈ S) := by
  refine Bool.eq_iff_iff.mpr ?_
  rw [decide_eq_true_eq]
  constructor
  · have go : ∀ f x, x = a ∨ x ∈ S → inside s f x b = true → x = b ∨ b ∈ S := fun f => by
      induction f with
      | zero => intro x _ h; rw [inside_zero] at h; cases h
      | succ f ih =>
        intro x hx h
        rcases (inside_iff s f x b).mp h with e | ⟨y, hy, q⟩
        · exact .inl e
        · have hy' := h2 x hx y hy
          rcases ih y (.inr hy') q with e | e
          · exact .inr (e ▸ hy')
          · exact .inr e
    intro h
    exact (go 16 a (.inl rfl) h).resolve_left hab
  · intro h
    obtain ⟨n, hn⟩ := h1 b h
    exact inside_all hb hl hn
end Rs
namespace Rs
open Si24

/-- a set as it lies: its number, its list's address, its members with theirs -/
structure Ent where
  k : Nat
  l : Nat
  ms : List (Nat × Member)
def Ent.mem (e : Ent) : List Member := e.ms.map (·.2)
def lay (L : List Ent) (k : Nat) : Option Ent := L.find? fun e => e.k == k
def absSets (L : List Ent) : List (Option (List Member)) := (List.range 16).map fun k => (lay L k).map Ent.mem
def absSt (lv : List Nat) (L : List Ent) : St := ⟨lv, absSets L⟩
structure Good (L : List Ent) : Prop where
  nd : (L.map (·.k)).Nodup
  lt : ∀ e ∈ L, e.k < 16
theorem lay_some {L : List Ent} {k : Nat} {e : Ent} (h : lay L k = some e) : e ∈ L ∧ e.k = k :=
  ⟨List.mem_of_find?_eq_some h, by have := List.find?_some h; exact beq_iff_eq.mp this⟩
theorem lay_none {L : List Ent} {k : Nat} : lay L k = none ↔ ∀ e ∈ L, e.k ≠ k := by
  unfold lay
  rw [List.find?_eq_none]
  exact ⟨fun h e he q => h e he (beq_iff_eq.mpr q), fun h e he q => h e he (beq_iff_eq.mp q)⟩
theorem lay_nil (k : Nat) : lay [] k = none := rfl
theorem lay_cons (e : Ent) (L : List Ent) (k : Nat) : lay (e :: L) k = if e.k = k then some e else lay L k := by
  unfold lay
  rw [List.find?_cons]
  by_cases h : e.k = k
  · rw [if_pos h, beq_iff_eq.mpr h]
  · rw [if_neg h, beq_eq_false_iff_ne.mpr h]
theorem lay_mem : ∀ {L : List Ent} {e : Ent}, (L.map (·.k)).Nodup → e ∈ L → lay L e.k = some e
  | [], e, _, h => by cases h
  | x :: L, e, nd, h => by
    rw [lay_cons]
    obtain ⟨n1, n2⟩ := List.nodup_cons.mp nd
    rcases List.mem_cons.mp h with q | q
    · subst q; rw [if_pos rfl]
    · rw [if_neg (fun z => n1 (by show x.k ∈ _; rw [z]; exact List.mem_map.mpr ⟨e, q, rfl⟩))]
      exact lay_mem n2 q
theorem lay_iff {L : List Ent} (G : Good L) {k : Nat} {e : Ent} : lay L k = some e ↔ e ∈ L ∧ e.k = k :=
  ⟨lay_some, fun ⟨h1, h2⟩ => h2 ▸ lay_mem G.nd h1⟩
theorem lay_out {L : List Ent} (G : Good L) {k : Nat} (h : 16 ≤ k) : lay L k = none :=
  lay_none.mpr fun e he q => by have := G.lt e he; omega
theorem lay_map {L : List Ent} {g : Ent → Ent} (hg : ∀ e, (g e).k = e.k) (k : Nat) : lay (L.map g) k = (lay L k).map g := by
  induction L with
  | nil => rfl
  | cons e L ih =>
    rw [List.map_cons, lay_cons, lay_cons, hg, ih]
    split <;> rfl
theorem lay_snoc {L : List Ent} {x : Ent} (k : Nat) : lay (L ++ [x]) k = (lay L k).or (if x.k = k then some x else none) := by
  unfold lay
  rw [List.find?_append]
  congr 1
  rw [List.find?_cons]
  by_cases h : x.k = k
  · rw [if_pos h, beq_iff_eq.mpr h]
  · rw [if_neg h, beq_eq_false_iff_ne.mpr h]; rfl
theorem lay_drop {L : List Ent} {j : Nat} (k : Nat) : lay (L.filter fun e => decide (e.k ≠ j)) k = if k = j then none else lay L k := by
  induction L with
  | nil => simp [lay]
  | cons e L ih =>
    by_cases h : e.k = j
    · rw [List.filter_cons_of_neg (by simp [h]), ih, lay_cons]
      by_cases q : k = j
      · rw [if_pos q, if_pos q]
      · rw [if_neg q, if_neg q, if_neg (fun z => q (z.symm.trans h))]
    · rw [List.filter_cons_of_pos (by simp [h]), lay_cons, ih, lay_cons]
      by_cases q : e.k = k
      · rw [if_pos q, if_pos q, if_neg (fun z => h (q.trans z))]
      · rw [if_neg q, if_neg q]

theorem absSets_length (L : List Ent) : (absSets L).length = 16 := by unfold absSets; simp
theorem absSets_get (L : List Ent) {k : Nat} (h : k < 16) : (absSets L)[k]? = some ((lay L k).map Ent.mem) := by
  unfold absSets
  rw [List.getElem?_map, List.getElem?_range h]; rfl
theorem abs_len (lv : List Nat) (L : List Ent) : (absSt lv L).sets.length ≤ 16 := Nat.le_of_eq (absSets_length L)
theorem members_abs {L : List Ent} (G : Good L) (lv : List Nat) (k : Nat) : (absSt lv L).members k = ((lay L k).map Ent.mem).getD [] := by
  by_cases h : k < 16
  · unfold St.members absSt
    rw [absSets_get L h]; rfl
  · rw [members_out (by have := absSets_length L; show (absSets L).length ≤ k; omega), lay_out G (by omega)]; rfl
theorem members_at {L : List Ent} (G : Good L) (lv : List Nat) {e : Ent} (h : e ∈ L) : (absSt lv L).members e.k = e.mem := by
  rw [members_abs G, lay_mem G.nd h]; rfl
theorem inRange_iff (z : Int) (lo hi : Nat) : inRange z lo hi = true ↔ (lo : Int) ≤ z ∧ z ≤ (hi : Int) := by
  unfold inRange; rw [Bool.and_eq_true, decide_eq_true_eq, decide_eq_true_eq]
theorem has_abs {L : List Ent} (G : Good L) (lv : List Nat) (z : Int) : (absSt lv L).has z = true ↔ ∃ e ∈ L, z = (e.k : Int) := by
  unfold St.has
  rw [Bool.and_eq_true, inRange_iff]
  constructor
  · rintro ⟨⟨h1, h2⟩, h3⟩
    have hz : z.toNat < 16 := by have : ((SETS - 1 : Nat) : Int) = 15 := rfl; omega
    have h3' : (((absSets L)[z.toNat]?).join).isSome = true := h3
    rw [absSets_get L hz] at h3'
    cases e : lay L z.toNat with
    | none => rw [e] at h3'; cases h3'
    | some x =>
      obtain ⟨a, b⟩ := lay_some e
      exact ⟨x, a, by omega⟩
  · rintro ⟨e, he, rfl⟩
    have hk := G.lt e he
    refine ⟨⟨by omega, by have : ((SETS - 1 : Nat) : Int) = 15 := rfl; omega⟩, ?_⟩
    show (((absSets L)[(e.k : Int).toNat]?).join).isSome = true
    rw [Int.toNat_natCast, absSets_get L hk, lay_mem G.nd he]; rfl
theorem has_nat {L : List Ent} (G : Good L) (lv : List Nat) {e : Ent} (h : e ∈ L) : (absSt lv L).has (e.k : Int) = true := (has_abs G lv _).mpr ⟨e, h, rfl⟩
theorem sets_ext {A B : List (Option (List Member))} (ha : A.length = 16) (hb : B.length = 16) (h : ∀ k, k < 16 → A[k]? = B[k]?) : A = B := by
  refine List.ext_getElem? fun k => ?_
  by_cases hk : k < 16
  · exact h k hk
  · rw [List.getElem?_eq_none (by omega), List.getElem?_eq_none (by omega)]
/-- the members of the set k are these, at another place -/
def putE (L : List Ent) (k l : Nat) (ms : List (Nat × Member)) : List Ent := L.map fun e => if e.k = k then ⟨e.k, l, ms⟩ else e
theorem putE_key (k l : Nat) (ms : List (Nat × Member)) (e : Ent) : (if e.k = k then (⟨e.k, l, ms⟩ : Ent) else e).k = e.k := by split <;> rfl
theorem lay_putE (L : List Ent) (k l : Nat) (ms : List (Nat × Member)) (j : Nat) : lay (putE L k l ms) j = (lay L j).map fun e => if e.k = k then ⟨e.k, l, ms⟩ else e := lay_map (putE_key k l ms) j
theorem keys_map {L : List Ent} {g : Ent → Ent} (hg : ∀ e, (g e).k = e.k) : (L.map g).map (·.k) = L.map (·.k) := by
  rw [List.map_map]; exact List.map_congr_left fun e _ => hg e
theorem good_map {L : List Ent} (G : Good L) {g : Ent → Ent} (hg : ∀ e, (g e).k = e.k) : Good (L.map g) where
  nd := by rw [keys_map hg]; exact G.nd
  lt := fun e he => by
    obtain ⟨x, hx, rfl⟩ := List.mem_map.mp he
    rw [hg]; exact G.lt x hx
theorem good_putE {L : List Ent} (G : Good L) (k l : Nat) (ms : List (Nat × Member)) : Good (putE L k l ms) := good_map G (putE_key k l ms)
theorem good_drop {L : List Ent} (G : Good L) (j : Nat) : Good (L.filter fun e => decide (e.k ≠ j)) where
  nd := List.Sublist.nodup (List.Sublist.map _ List.filter_sublist) G.nd
  lt := fun e he => G.lt e (List.mem_filter.mp he).1
theorem good_snoc {L : List Ent} (G : Good L) {x : Ent} (hx : x.k < 16) (hn : lay L x.k = none) : Good (L ++ [x]) where
  nd := by
    rw [List.map_append, List.nodup_append]
    refine ⟨G.nd, by simp, fun a ha b hb q => ?_⟩
    obtain ⟨e, he, rfl⟩ := List.mem_map.mp ha
    have : b = x.k := by simpa using hb
    exact lay_none.mp hn e he (q.trans this)
  lt := fun e he => by
    rcases List.mem_append.mp he with q | q
    · exact G.lt e q
    · have : e = x := by simpa using q
      rw [this]; exact hx
theorem abs_put {L : List Ent} (G : Good L) (lv : List Nat) {e : Ent} (h : e ∈ L) (l : Nat) (ms : List (Nat × Member)) : absSt lv (putE L e.k l ms) = (absSt lv L).put e.k (ms.map (·.2)) := by
  unfold St.put absSt
  congr 1
  refine sets_ext (absSets_length _) (by rw [List.length_set]; exact absSets_length _) fun j hj => ?_
  show _ = ((absSets L).set e.k (some (ms.map (·.2))))[j]?
  rw [absSets_get _ hj, lay_putE, List.getElem?_set, absSets_length, absSets_get _ hj]
  by_cases q : e.k = j
  · subst q
    rw [if_pos rfl, if_pos hj, lay_mem G.nd h]
    show some (some (Ent.mem (if e.k = e.k then _ else _))) = _
    rw [if_pos rfl]; rfl
  · rw [if_neg q]
    cases c : lay L j with
    | none => rfl
    | some x =>
      show some (some (Ent.mem (if x.k = e.k then _ else _))) = _
      rw [if_neg (fun z => q (z.symm.trans (lay_some c).2))]; rfl
theorem abs_snoc {L : List Ent} (lv : List Nat) {k : Nat} (l : Nat) (hk : k < 16) (hn : lay L k = none) : absSt lv (L ++ [⟨k, l, []⟩]) = (absSt lv L).put k [] := by
  unfold St.put absSt
  congr 1
  refine sets_ext (absSets_length _) (by rw [List.length_set]; exact absSets_length _) fun j hj => ?_
  show _ = ((absSets L).set k (some []))[j]?
  rw [absSets_get _ hj, lay_snoc, List.getElem?_set, absSets_length, absSets_get _ hj]
  by_cases q : k = j
  · subst q
    rw [if_pos rfl, if_pos rfl, if_pos hj, hn]; rfl
  · rw [if_neg q, if_neg q, Option.or_none]
theorem abs_drop {L : List Ent} (lv : List Nat) (k : Nat) : absSets (L.filter fun e => decide (e.k ≠ k)) = (absSets L).set k none := by
  refine sets_ext (absSets_length _) (by rw [List.length_set]; exact absSets_length _) fun j hj => ?_
  rw [absSets_get _ hj, lay_drop, List.getElem?_set, absSets_length, absSets_get _ hj]
  by_cases q : k = j
  · subst q; rw [if_pos rfl, if_pos rfl, if_pos hj]; rfl
  · rw [if_neg q, if_neg (fun z => q z.symm)]
theorem abs_map {L : List Ent} {g : Ent → Ent} {F : List Member → List Member} (hg : ∀ e, (g e).k = e.k) (hF : ∀ e ∈ L, (g e).mem = F e.mem) : absSets (L.map g) = (absSets L).map fun y => y.map F := by
  refine sets_ext (absSets_length _) (by rw [List.length_map]; exact absSets_length _) fun j hj => ?_
  rw [absSets_get _ hj, lay_map hg, List.getElem?_map, absSets_get _ hj]
  cases c : lay L j with
  | none => rfl
  | some x =>
    show some (some (g x).mem) = some (some (F x.mem))
    rw [hF x (lay_some c).1]
/-- the least that is no set -/
theorem find_none {L : List Ent} : ∀ {k : Nat}, (absSets L).findIdx? (fun y => y.isNone) = some k ↔ k < 16 ∧ lay L k = none ∧ ∀ j, j < k → lay L j ≠ none := by
  intro k
  rw [List.findIdx?_eq_some_iff_getElem]
  constructor
  · rintro ⟨h, h1, h2⟩
    have hk : k < 16 := by rw [absSets_length] at h; exact h
    have g : ∀ j, j < 16 → ∀ q, (absSets L)[j]'q = (lay L j).map Ent.mem := fun j hj q => by
      have := absSets_get L hj
      rw [List.getElem?_eq_getElem q] at this
      exact Option.some.inj this
    refine ⟨hk, ?_, fun j hj z => ?_⟩
    · rw [g k hk h] at h1
      cases c : lay L k with
      | none => rfl
      | some x => rw [c] at h1; cases h1
    · have := h2 j hj
      rw [g j (by omega), z] at this
      exact this rfl
  · rintro ⟨hk, h1, h2⟩
    have g : ∀ j, j < 16 → ∀ q, (absSets L)[j]'q = (lay L j).map Ent.mem := fun j hj q => by
      have := absSets_get L hj
      rw [List.getElem?_eq_getElem q] at this
      exact Option.some.inj this
    refine ⟨by rw [absSets_length]; exact hk, by rw [g k hk, h1]; rfl, fun j hj => ?_⟩
    rw [g j (by omega)]
    cases c : lay L j with
    | none => exact absurd c (h2 j hj)
    | some x => simp
theorem find_full {L : List Ent} (h : ∀ j, j < 16 → lay L j ≠ none) : (absSets L).findIdx? (fun y => y.isNone) = none := by
  cases e : (absSets L).findIdx? (fun y => y.isNone) with
  | none => rfl
  | some k =>
    obtain ⟨h1, h2, _⟩ := find_none.mp e
    exact absurd h2 (h k h1)
end Rs
namespace Rs
open Si24
structure Ho where
  p : Nat
  lv : Nat
  sd : Nat
  L : List Ent
  lvs : List Nat
def Ho.st (h : Ho) : St := absSt h.lvs h.L
/-- all but: every set that's a member is there -/
structure HG0 (h : Ho) : Prop where
  good : Good h.L
  lnd : ∀ e ∈ h.L, ∀ e' ∈ h.L, e.k ≠ e'.k → e.l ≠ e'.l
  lvn : ∀ e ∈ h.L, e.l ≠ h.lv
  mnd : ∀ e ∈ h.L, (e.ms.map (·.1)).Nodup
  mne : ∀ e ∈ h.L, ∀ e' ∈ h.L, e.k ≠ e'.k → ∀ x ∈ e.ms, ∀ y ∈ e'.ms, x.1 ≠ y.1
  llen : h.lvs.length = 256
  lbit : ∀ n ∈ h.lvs, n ≤ 15
  few : ∀ e ∈ h.L, e.ms.length ≤ 64
  lev : ∀ e ∈ h.L, ∀ x ∈ e.ms, 256 ≤ x.2.src → x.2.mode = .level ∧ x.2.sleeps = false
  one : ∀ e ∈ h.L, (e.ms.map (·.2.src)).Nodup
structure HGood (h : Ho) : Prop extends HG0 h where
  kid : ∀ e ∈ h.L, ∀ x ∈ e.ms, 256 ≤ x.2.src → ∃ e' ∈ h.L, x.2.src = 256 + e'.k
/-- the members of one set anew, at another place -/
theorem mem_putE {L : List Ent} {k l : Nat} {ms : List (Nat × Member)} {x : Ent} (h : x ∈ putE L k l ms) : ∃ y ∈ L, x.k = y.k ∧ ((y.k = k ∧ x.l = l ∧ x.ms = ms) ∨ (y.k ≠ k ∧ x = y)) := by
  obtain ⟨y, hy, e⟩ := List.mem_map.mp h
  by_cases q : y.k = k
  · rw [if_pos q] at e
    subst e
    exact ⟨y, hy, rfl, .inl ⟨q, rfl, rfl⟩⟩
  · rw [if_neg q] at e
    subst e
    exact ⟨y, hy, rfl, .inr ⟨q, rfl⟩⟩
theorem mem_putE_key {L : List Ent} {k l : Nat} {ms : List (Nat × Member)} {y : Ent} (h : y ∈ L) : ∃ x ∈ putE L k l ms, x.k = y.k :=
  ⟨_, List.mem_map.mpr ⟨y, h, rfl⟩, putE_key k l ms y⟩
theorem HG0.put {h : Ho} (g : HG0 h) {e : Ent} {l : Nat} {ms : List (Nat × Member)} (nl : ∀ x ∈ h.L, x.k ≠ e.k → x.l ≠ l) (nlv : l ≠ h.lv) (n1 : (ms.map (·.1)).Nodup)
    (n2 : ∀ x ∈ h.L, x.k ≠ e.k → ∀ a ∈ ms, ∀ b ∈ x.ms, a.1 ≠ b.1) (few : ms.length ≤ 64)
    (lev : ∀ x ∈ ms, 256 ≤ x.2.src → x.2.mode = .level ∧ x.2.sleeps = false) (one : (ms.map (·.2.src)).Nodup) : HG0 { h with L := putE h.L e.k l ms } where
  good := good_putE g.good _ _ _
  lnd := fun x hx y hy hk => by
    obtain ⟨x', hx', kx, qx | qx⟩ := mem_putE hx <;> obtain ⟨y', hy', ky, qy | qy⟩ := mem_putE hy
    · exact absurd (kx.trans (qx.1.trans (qy.1.symm.trans ky.symm))) hk
    · rw [qx.2.1, qy.2]; exact (nl y' hy' qy.1).symm
    · rw [qy.2.1, qx.2]; exact nl x' hx' qx.1
    · rw [qx.2, qy.2]; exact g.lnd x' hx' y' hy' (by rw [← kx, ← ky]; exact hk)
  lvn := fun x hx => by
    obtain ⟨x', hx', kx, qx | qx⟩ := mem_putE hx
    · rw [qx.2.1]; exact nlv
    · rw [qx.2]; exact g.lvn x' hx'
  mnd := fun x hx => by
    obtain ⟨x', hx', kx, qx | qx⟩ := mem_putE hx
    · rw [qx.2.2]; exact n1
    · rw [qx.2]; exact g.mnd x' hx'
  mne := fun x hx y hy hk a ha b hb => by
    obtain ⟨x', hx', kx, qx | qx⟩ := mem_putE hx <;> obtain ⟨y', hy', ky, qy | qy⟩ := mem_putE hy
    · exact absurd (kx.trans (qx.1.trans (qy.1.symm.trans ky.symm))) hk
    · rw [qx.2.2] at ha; rw [qy.2] at hb; exact n2 y' hy' qy.1 a ha b hb
    · rw [qy.2.2] at hb; rw [qx.2] at ha; exact (n2 x' hx' qx.1 b hb a ha).symm
    · rw [qx.2] at ha; rw [qy.2] at hb; exact g.mne x' hx' y' hy' (by rw [← kx, ← ky]; exact hk) a ha b hb
  llen := g.llen
  lbit := g.lbit
  few := fun x hx => by
    obtain ⟨x', hx', kx, qx | qx⟩ := mem_putE hx
    · rw [qx.2.2]; exact few
    · rw [qx.2]; exact g.few x' hx'
  lev := fun x hx z hz hs => by
    obtain ⟨x', hx', kx, qx | qx⟩ := mem_putE hx
    · rw [qx.2.2] at hz; exact lev z hz hs
    · rw [qx.2] at hz; exact g.lev x' hx' z hz hs
  one := fun x hx => by
    obtain ⟨x', hx', kx, qx | qx⟩ := mem_putE hx
    · rw [qx.2.2]; exact one
    · rw [qx.2]; exact g.one x' hx'
theorem HGood.put {h : Ho} (g : HGood h) {e : Ent} {l : Nat} {ms : List (Nat × Member)} (g0 : HG0 { h with L := putE h.L e.k l ms }) (kid : ∀ x ∈ ms, 256 ≤ x.2.src → ∃ e' ∈ h.L, x.2.src = 256 + e'.k) : HGood { h with L := putE h.L e.k l ms } where
  toHG0 := g0
  kid := fun x hx z hz hs => by
    have up : ∀ e' ∈ h.L, z.2.src = 256 + e'.k → ∃ e'' ∈ putE h.L e.k l ms, z.2.src = 256 + e''.k := fun e' he' q => by
      obtain ⟨e2, h2, k2⟩ := mem_putE_key (k := e.k) (l := l) (ms := ms) he'
      exact ⟨e2, h2, by rw [k2]; exact q⟩
    obtain ⟨x', hx', kx, qx | qx⟩ := mem_putE hx
    · rw [qx.2.2] at hz
      obtain ⟨e', he', q⟩ := kid z hz hs
      exact up e' he' q
    · rw [qx.2] at hz
      obtain ⟨e', he', q⟩ := g.kid x' hx' z hz hs
      exact up e' he' q

/-! ### what belongs to a house -/
def Own (h : Ho) (b : Nat) : Prop := b = h.p ∨ b = h.lv ∨ b = h.sd ∨ (∃ e ∈ h.L, b = e.l) ∨ (∃ e ∈ h.L, ∃ x ∈ e.ms, b = x.1)
theorem st_len (h : Ho) : h.st.sets.length ≤ 16 := abs_len h.lvs h.L
theorem has_key {h : Ho} (g : HG0 h) (z : Int) : h.st.has z = true ↔ ∃ e ∈ h.L, z = (e.k : Int) := has_abs g.good h.lvs z
theorem has_not {h : Ho} (g : HG0 h) {z : Int} (n : ¬ ∃ e ∈ h.L, z = (e.k : Int)) : h.st.has z = false := by
  cases c : h.st.has z with
  | false => rfl
  | true => exact absurd ((has_key g z).mp c) n
theorem mem_at {h : Ho} (g : HG0 h) {e : Ent} (he : e ∈ h.L) : h.st.members ((e.k : Int).toNat) = e.mem := by
  rw [Int.toNat_natCast]; exact members_at g.good h.lvs he
theorem put_at {h : Ho} (g : HG0 h) {e : Ent} (he : e ∈ h.L) (l : Nat) (ms : List (Nat × Member)) : ({ h with L := putE h.L e.k l ms } : Ho).st = h.st.put (e.k : Int).toNat (ms.map (·.2)) := by
  rw [Int.toNat_natCast]; exact abs_put g.good h.lvs he l ms
theorem any_src (e : Ent) (src : Int) (h0 : 0 ≤ src) : (e.mem.any fun m => m.src == src.toNat) = e.ms.any fun x => decide ((x.2.src : Int) = src) := by
  unfold Ent.mem
  rw [List.any_map]
  refine congrArg (fun p => List.any e.ms p) ?_
  funext x
  show (x.2.src == src.toNat) = decide ((x.2.src : Int) = src)
  by_cases q : (x.2.src : Int) = src
  · rw [decide_eq_true q]; exact beq_iff_eq.mpr (by omega)
  · rw [decide_eq_false q]; exact beq_eq_false_iff_ne.mpr (by omega)
/-! ### opens -/
theorem plain_opens {h : Ho} {k : Nat} (h1 : k < 16) (h2 : lay h.L k = none) (h3 : ∀ j, j < k → lay h.L j ≠ none) (l : Nat) :
    Si24.plain h.st .opens = (({ h with L := h.L ++ [⟨k, l, []⟩] } : Ho).st, Si24.say k) := by
  have e : h.st.sets.findIdx? (fun y => y.isNone) = some k := find_none.mpr ⟨h1, h2, h3⟩
  have e2 : ({ h with L := h.L ++ [⟨k, l, []⟩] } : Ho).st = h.st.put k [] := abs_snoc h.lvs l h1 h2
  simp only [Si24.plain, e, e2]
theorem plain_opens_full {h : Ho} (h3 : ∀ j, j < 16 → lay h.L j ≠ none) : Si24.plain h.st .opens = (h.st, Si24.say (-5)) := by
  have e : h.st.sets.findIdx? (fun y => y.isNone) = none := find_full h3
  simp only [Si24.plain, e]
theorem good_opens {h : Ho} (g : HGood h) {k l : Nat} (hk : k < 16) (hn : lay h.L k = none) (nl : ∀ e ∈ h.L, e.l ≠ l) (nlv : l ≠ h.lv) : HGood { h with L := h.L ++ [⟨k, l, []⟩] } where
  good := good_snoc g.good hk hn
  lnd := fun x hx y hy q => by
    rcases List.mem_append.mp hx with a | a <;> rcases List.mem_append.mp hy with b | b
    · exact g.lnd x a y b q
    · have := List.mem_singleton.mp b; subst this; exact nl x a
    · have := List.mem_singleton.mp a; subst this; exact (nl y b).symm
    · have e1 := List.mem_singleton.mp a; have e2 := List.mem_singleton.mp b; subst e1; subst e2; exact absurd rfl q
  lvn := fun x hx => by
    rcases List.mem_append.mp hx with a | a
    · exact g.lvn x a
    · have := List.mem_singleton.mp a; subst this; exact nlv
  mnd := fun x hx => by
    rcases List.mem_append.mp hx with a | a
    · exact g.mnd x a
    · have := List.mem_singleton.mp a; subst this; exact List.nodup_nil
  mne := fun x hx y hy q u hu v hv => by
    rcases List.mem_append.mp hx with a | a <;> rcases List.mem_append.mp hy with b | b
    · exact g.mne x a y b q u hu v hv
    · have := List.mem_singleton.mp b; subst this; cases hv
    · have := List.mem_singleton.mp a; subst this; cases hu
    · have := List.mem_singleton.mp a; subst this; cases hu
  llen := g.llen
  lbit := g.lbit
  few := fun x hx => by
    rcases List.mem_append.mp hx with a | a
    · exact g.few x a
    · have := List.mem_singleton.mp a; subst this; exact Nat.zero_le _
  kid := fun x hx z hz hs => by
    rcases List.mem_append.mp hx with a | a
    · obtain ⟨e', he', q⟩ := g.kid x a z hz hs
      exact ⟨e', List.mem_append_left _ he', q⟩
    · have := List.mem_singleton.mp a; subst this; cases hz
  lev := fun x hx z hz hs => by
    rcases List.mem_append.mp hx with a | a
    · exact g.lev x a z hz hs
    · have := List.mem_singleton.mp a; subst this; cases hz
  one := fun x hx => by
    rcases List.mem_append.mp hx with a | a
    · exact g.one x a
    · have := List.mem_singleton.mp a; subst this; exact List.nodup_nil
end Rs
namespace Rs
open Si24

/-! ### begins -/
def begun (p lv sd : Nat) : Ho := ⟨p, lv, sd, [], List.replicate 256 0⟩
theorem begun_st (p lv sd : Nat) : (begun p lv sd).st = Si24.init := by
  unfold begun Ho.st absSt absSets Si24.init
  congr 1
theorem begun_good (p lv sd : Nat) : HGood (begun p lv sd) where
  good := ⟨List.nodup_nil, fun e he => by cases he⟩
  lnd := fun e he => by cases he
  lvn := fun e he => by cases he
  mnd := fun e he => by cases he
  mne := fun e he => by cases he
  llen := List.length_replicate
  lbit := fun n hn => by rw [List.eq_of_mem_replicate hn]; exact Nat.zero_le _
  few := fun e he => by cases he
  lev := fun e he => by cases he
  one := fun e he => by cases he
  kid := fun e he => by cases he

/-! ### members left out -/
def without (ms : List (Nat × Member)) (src : Int) : List (Nat × Member) := ms.filter fun x => !decide ((x.2.src : Int) = src)
theorem without_mem {ms : List (Nat × Member)} {src : Int} {x : Nat × Member} (h : x ∈ without ms src) : x ∈ ms ∧ ¬ (x.2.src : Int) = src := by
  obtain ⟨h1, h2⟩ := List.mem_filter.mp h
  exact ⟨h1, fun z => by rw [decide_eq_true z] at h2; cases h2⟩
theorem without_map {ms : List (Nat × Member)} {src : Int} {n : Nat} (e : src = (n : Int)) : (without ms src).map (·.2) = (ms.map (·.2)).filter fun m => m.src != n := by
  unfold without
  rw [List.filter_map]
  refine congrArg (fun l => List.map _ l) (List.filter_congr fun x _ => ?_)
  show (!decide ((x.2.src : Int) = src)) = (x.2.src != n)
  subst e
  by_cases q : x.2.src = n
  · rw [decide_eq_true (by rw [q]), q]; simp
  · rw [decide_eq_false (by omega), bne_iff_ne.mpr q]; rfl
theorem without_take {ms : List (Nat × Member)} {src : Int} {i : Nat} {y : Nat × Member} (c : ms[i]? = some y) : without (ms.take (i + 1)) src = if (y.2.src : Int) = src then without (ms.take i) src else without (ms.take i) src ++ [y] := by
  unfold without
  rw [List.take_add_one, c, List.filter_append]
  show _ ++ List.filter _ [y] = _
  by_cases q : (y.2.src : Int) = src
  · rw [if_pos q, List.filter_cons_of_neg (by rw [decide_eq_true q]; decide), List.filter_nil, List.append_nil]
  · rw [if_neg q, List.filter_cons_of_pos (by rw [decide_eq_false q]; rfl), List.filter_nil]
theorem without_good {h : Ho} (g : HG0 h) {e : Ent} (he : e ∈ h.L) {l : Nat} (src : Int) (nl : ∀ x ∈ h.L, x.l ≠ l) (nlv : l ≠ h.lv) : HG0 { h with L := putE h.L e.k l (without e.ms src) } :=
  g.put (fun x hx _ => nl x hx) nlv (List.Sublist.nodup (List.Sublist.map _ List.filter_sublist) (g.mnd e he)) (fun x hx hk a ha b hb => g.mne e he x hx (Ne.symm hk) a (without_mem ha).1 b hb)
    (Nat.le_trans (List.length_filter_le _ _) (g.few e he)) (fun x hx => g.lev e he x (without_mem hx).1) (List.Sublist.nodup (List.Sublist.map _ List.filter_sublist) (g.one e he))

/-! ### every set's members anew -/
/-- the same sets in the same order -/
def Keyed (R : Ent → Ent → Prop) : List Ent → List Ent → Prop
  | [], [] => True
  | x :: X, y :: Y => x.k = y.k ∧ R x y ∧ Keyed R X Y
  | _, _ => False
theorem Keyed.keys {R : Ent → Ent → Prop} : ∀ {X Y : List Ent}, Keyed R X Y → X.map (·.k) = Y.map (·.k)
  | [], [], _ => rfl
  | x :: X, y :: Y, h => by rw [List.map_cons, List.map_cons, h.1, Keyed.keys h.2.2]
  | [], _ :: _, h => h.elim
  | _ :: _, [], h => h.elim
theorem Keyed.lay {R : Ent → Ent → Prop} : ∀ {X Y : List Ent}, Keyed R X Y → ∀ k, (lay X k = none ∧ lay Y k = none) ∨ ∃ x y, lay X k = some x ∧ lay Y k = some y ∧ R x y
  | [], [], _, k => .inl ⟨rfl, rfl⟩
  | x :: X, y :: Y, h, k => by
    rw [lay_cons, lay_cons, h.1]
    by_cases q : y.k = k
    · rw [if_pos q, if_pos q]; exact .inr ⟨x, y, rfl, rfl, h.2.1⟩
    · rw [if_neg q, if_neg q]; exact Keyed.lay h.2.2 k
  | [], _ :: _, h, _ => h.elim
  | _ :: _, [], h, _ => h.elim
theorem Keyed.abs {F : List Member → List Member} {X Y : List Ent} (h : Keyed (fun x y => y.mem = F x.mem) X Y) : absSets Y = (absSets X).map fun y => y.map F := by
  refine sets_ext (absSets_length _) (by rw [List.length_map]; exact absSets_length _) fun j hj => ?_
  rw [absSets_get _ hj, List.getElem?_map, absSets_get _ hj]
  rcases h.lay j with ⟨h1, h2⟩ | ⟨x, y, h1, h2, r⟩
  · rw [h1, h2]; rfl
  · rw [h1, h2]
    show some (some y.mem) = some (some (F x.mem))
    rw [r]
theorem Keyed.refl {R : Ent → Ent → Prop} (r : ∀ x, R x x) : ∀ X : List Ent, Keyed R X X
  | [] => True.intro
  | x :: X => ⟨rfl, r x, Keyed.refl r X⟩
theorem Keyed.imp {R S : Ent → Ent → Prop} (f : ∀ x y, R x y → S x y) : ∀ {X Y : List Ent}, Keyed R X Y → Keyed S X Y
  | [], [], _ => True.intro
  | x :: X, y :: Y, h => ⟨h.1, f x y h.2.1, Keyed.imp f h.2.2⟩
  | [], _ :: _, h => h.elim
  | _ :: _, [], h => h.elim
theorem Keyed.mem {R : Ent → Ent → Prop} : ∀ {X Y : List Ent}, Keyed R X Y → ∀ y ∈ Y, ∃ x ∈ X, x.k = y.k ∧ R x y
  | [], [], _, y, hy => by cases hy
  | x :: X, z :: Y, h, y, hy => by
    rcases List.mem_cons.mp hy with q | q
    · subst q; exact ⟨x, List.mem_cons_self, h.1, h.2.1⟩
    · obtain ⟨x', hx', r⟩ := Keyed.mem h.2.2 y q
      exact ⟨x', List.mem_cons_of_mem _ hx', r⟩
  | [], _ :: _, h, _, _ => h.elim
  | _ :: _, [], h, _, _ => h.elim
/-- .. one of them anew -/
theorem Keyed.put {R : Ent → Ent → Prop} {k l : Nat} {ms : List (Nat × Member)} : ∀ {X Y : List Ent}, Keyed R X Y → (∀ x y, x ∈ X → y ∈ Y → x.k = y.k → y.k = k → R x y → R x ⟨k, l, ms⟩) → Keyed R X (putE Y k l ms)
  | [], [], _, _ => True.intro
  | x :: X, y :: Y, h, f => by
    show Keyed R (x :: X) ((if y.k = k then (⟨y.k, l, ms⟩ : Ent) else y) :: putE Y k l ms)
    refine ⟨by rw [putE_key]; exact h.1, ?_, Keyed.put h.2.2 fun x' y' hx hy => f x' y' (List.mem_cons_of_mem _ hx) (List.mem_cons_of_mem _ hy)⟩
    by_cases q : y.k = k
    · rw [if_pos q, q]; exact f x y List.mem_cons_self List.mem_cons_self h.1 q h.2.1
    · rw [if_neg q]; exact h.2.1
  | [], _ :: _, h, _ => h.elim
  | _ :: _, [], h, _ => h.elim

/-! ### shut -/
theorem plain_shut_no {h : Ho} (g : HG0 h) {z : Int} (n : ¬ ∃ e ∈ h.L, z = (e.k : Int)) : Si24.plain h.st (.shut z) = (h.st, Si24.say (-2)) := by
  simp only [Si24.plain, has_not g n, if_true]
theorem plain_shut {h : Ho} (g : HG0 h) {e : Ent} (he : e ∈ h.L) {L' : List Ent} (hL : Keyed (fun x y => y.ms = without x.ms (256 + e.k : Nat)) (h.L.filter fun x => decide (x.k ≠ e.k)) L') :
    Si24.plain h.st (.shut e.k) = (({ h with L := L' } : Ho).st, Si24.say 0) := by
  have hh : h.st.has (e.k : Int) = true := (has_key g _).mpr ⟨e, he, rfl⟩
  have e1 : ({ h with L := L' } : Ho).st = { ({ h.st with sets := h.st.sets.set e.k none } : St) with sets := (h.st.sets.set e.k none).map fun y => y.map fun l => l.filter fun m => m.src != SOURCES + e.k } := by
    show absSt h.lvs L' = _
    unfold absSt
    congr 1
    rw [Keyed.abs (F := fun l => l.filter fun m => m.src != 256 + e.k) (hL.imp fun x y q => by unfold Ent.mem; rw [q]; exact without_map rfl), abs_drop h.lvs]
    rfl
  simp only [Si24.plain, hh, Int.toNat_natCast, e1, Bool.true_eq_false, if_false]
/-! ### drop -/
theorem inR_iff (z : Int) (lo hi : Nat) : inRange z lo hi = false ↔ ¬ ((lo : Int) ≤ z ∧ z ≤ (hi : Int)) := by
  rw [← Bool.not_eq_true, inRange_iff]
theorem src_in {z : Int} (h : 0 ≤ z ∧ z < 272) : inRange z 0 (SOURCES + SETS - 1) = true := (inRange_iff _ _ _).mpr ⟨h.1, by have : ((SOURCES + SETS - 1 : Nat) : Int) = 271 := rfl; omega⟩
theorem src_out {z : Int} (h : ¬ (0 ≤ z ∧ z < 272)) : inRange z 0 (SOURCES + SETS - 1) = false := (inR_iff _ _ _).mpr fun ⟨a, b⟩ => h ⟨a, by have : ((SOURCES + SETS - 1 : Nat) : Int) = 271 := rfl; omega⟩
theorem plain_drop_1 {h : Ho} {k z : Int} (q : ¬ (0 ≤ z ∧ z < 272)) : Si24.plain h.st (.drop k z) = (h.st, Si24.say (-1)) := by
  simp only [Si24.plain, src_out q, if_true]
theorem plain_drop_2 {h : Ho} (g : HG0 h) {k z : Int} (q : 0 ≤ z ∧ z < 272) (n : ¬ ∃ e ∈ h.L, k = (e.k : Int)) : Si24.plain h.st (.drop k z) = (h.st, Si24.say (-2)) := by
  simp only [Si24.plain, src_in q, has_not g n, Bool.true_eq_false, if_false, true_or, if_true]
theorem plain_drop_3 {h : Ho} (g : HG0 h) {e : Ent} (he : e ∈ h.L) {z : Int} (q : 0 ≤ z ∧ z < 272) (n : (e.ms.any fun x => decide ((x.2.src : Int) = z)) = false) : Si24.plain h.st (.drop e.k z) = (h.st, Si24.say (-2)) := by
  have hh : h.st.has (e.k : Int) = true := (has_key g _).mpr ⟨e, he, rfl⟩
  simp only [Si24.plain, src_in q, hh, mem_at g he, any_src e z q.1, n, Bool.true_eq_false, if_false, or_true, if_true]
theorem plain_drop {h : Ho} (g : HG0 h) {e : Ent} (he : e ∈ h.L) {z : Int} (q : 0 ≤ z ∧ z < 272) (n : (e.ms.any fun x => decide ((x.2.src : Int) = z)) = true) (l : Nat) :
    Si24.plain h.st (.drop e.k z) = (({ h with L := putE h.L e.k l (without e.ms z) } : Ho).st, Si24.say 0) := by
  have hh : h.st.has (e.k : Int) = true := (has_key g _).mpr ⟨e, he, rfl⟩
  have e1 : (without e.ms z).map (·.2) = e.mem.filter fun m => m.src != z.toNat := without_map (by omega)
  simp only [Si24.plain, src_in q, hh, mem_at g he, any_src e z q.1, n, put_at g he, e1, Bool.true_eq_false, or_self, if_false]
end Rs
namespace Rs
open Si24
theorem Keyed.put2 {R S : Ent → Ent → Prop} {k l : Nat} {ms : List (Nat × Member)} : ∀ {X Y : List Ent}, Keyed R X Y → (∀ x y, x ∈ X → x.k = y.k → y.k = k → R x y → S x ⟨k, l, ms⟩) → (∀ x y, x ∈ X → x.k = y.k → y.k ≠ k → R x y → S x y) → Keyed S X (putE Y k l ms)
  | [], [], _, _, _ => True.intro
  | x :: X, y :: Y, h, f, f' => by
    show Keyed S (x :: X) ((if y.k = k then (⟨y.k, l, ms⟩ : Ent) else y) :: putE Y k l ms)
    refine ⟨by rw [putE_key]; exact h.1, ?_, Keyed.put2 h.2.2 (fun x' y' hx => f x' y' (List.mem_cons_of_mem _ hx)) fun x' y' hx => f' x' y' (List.mem_cons_of_mem _ hx)⟩
    by_cases q : y.k = k
    · rw [if_pos q, q]; exact f x y List.mem_cons_self h.1 q h.2.1
    · rw [if_neg q]; exact f' x y List.mem_cons_self h.1 q h.2.1
  | [], _ :: _, h, _, _ => h.elim
  | _ :: _, [], h, _, _ => h.elim
theorem Keyed.imem {R : Ent → Ent → Prop} : ∀ {X Y : List Ent}, Keyed R X Y → ∀ x ∈ X, ∃ y ∈ Y, x.k = y.k ∧ R x y
  | [], [], _, y, hy => by cases hy
  | z :: X, y :: Y, h, x, hx => by
    rcases List.mem_cons.mp hx with q | q
    · subst q; exact ⟨y, List.mem_cons_self, h.1, h.2.1⟩
    · obtain ⟨y', hy', r⟩ := Keyed.imem h.2.2 x q
      exact ⟨y', List.mem_cons_of_mem _ hy', r⟩
  | [], _ :: _, h, _, _ => h.elim
  | _ :: _, [], h, _, _ => h.elim
theorem HG0.drop {h : Ho} (g : HG0 h) (k : Nat) : HG0 { h with L := h.L.filter fun e => decide (e.k ≠ k) } where
  good := good_drop g.good k
  lnd := fun x hx y hy => g.lnd x (List.mem_filter.mp hx).1 y (List.mem_filter.mp hy).1
  lvn := fun x hx => g.lvn x (List.mem_filter.mp hx).1
  mnd := fun x hx => g.mnd x (List.mem_filter.mp hx).1
  mne := fun x hx y hy => g.mne x (List.mem_filter.mp hx).1 y (List.mem_filter.mp hy).1
  llen := g.llen
  lbit := g.lbit
  few := fun x hx => g.few x (List.mem_filter.mp hx).1
  lev := fun x hx => g.lev x (List.mem_filter.mp hx).1
  one := fun x hx => g.one x (List.mem_filter.mp hx).1
/-- the sets of which the first i are through with it -/
def Thru (s : Int) (L1 : List Ent) (i : Nat) : List Ent → Prop := Keyed (fun x y => (x.k ∈ (L1.take i).map (·.k) ∧ y.ms = without x.ms s) ∨ (x.k ∉ (L1.take i).map (·.k) ∧ y = x)) L1
theorem thru_zero (s : Int) (L1 : List Ent) : Thru s L1 0 L1 := Keyed.refl (fun x => .inr ⟨fun z => (by cases z), rfl⟩) L1
theorem thru_end {s : Int} {L1 Y : List Ent} (h : Thru s L1 L1.length Y) : Keyed (fun x y => y.ms = without x.ms s) L1 Y := by
  have go : ∀ {X Y : List Ent}, (∀ x ∈ X, x ∈ L1) → Keyed (fun x y => (x.k ∈ (L1.take L1.length).map (·.k) ∧ y.ms = without x.ms s) ∨ (x.k ∉ (L1.take L1.length).map (·.k) ∧ y = x)) X Y → Keyed (fun x y => y.ms = without x.ms s) X Y := by
    intro X
    induction X with
    | nil =>
      intro Y _ h
      cases Y with
      | nil => exact True.intro
      | cons _ _ => exact h.elim
    | cons x X ih =>
      intro Y hs h
      cases Y with
      | nil => exact h.elim
      | cons y Y =>
        refine ⟨h.1, ?_, ih (fun z hz => hs z (List.mem_cons_of_mem _ hz)) h.2.2⟩
        rcases h.2.1 with q | q
        · exact q.2
        · rw [List.take_length] at q
          exact absurd (List.mem_map.mpr ⟨x, hs x List.mem_cons_self, rfl⟩) q.1
  exact go (fun x hx => hx) h
theorem take_key {L1 : List Ent} {i : Nat} {e : Ent} (c : L1[i]? = some e) (k : Nat) : k ∈ (L1.take (i + 1)).map (·.k) ↔ k ∈ (L1.take i).map (·.k) ∨ k = e.k := by
  rw [List.take_add_one, c, List.map_append, List.mem_append]
  show _ ∨ k ∈ [e.k] ↔ _
  rw [List.mem_singleton]
theorem key_fresh {L1 : List Ent} (n : (L1.map (·.k)).Nodup) {i : Nat} {e : Ent} (c : L1[i]? = some e) : e.k ∉ (L1.take i).map (·.k) := fun z => by
  obtain ⟨x, hx, q⟩ := List.mem_map.mp z
  obtain ⟨j, hj, ej⟩ := List.mem_iff_getElem.mp hx
  rw [List.length_take] at hj
  rw [List.getElem_take] at ej
  have hi : i < L1.length := (List.getElem?_eq_some_iff.mp c).1
  have a : (L1.map (·.k))[j]'(by rw [List.length_map]; omega) = e.k := by rw [List.getElem_map, ej]; exact q
  have b : (L1.map (·.k))[i]'(by rw [List.length_map]; exact hi) = e.k := by rw [List.getElem_map, (List.getElem?_eq_some_iff.mp c).2]
  have := (List.getElem_inj n).mp (a.trans b.symm)
  omega
/-- the i-th is still as it was -/
theorem thru_at {s : Int} {L1 Y : List Ent} (n : (L1.map (·.k)).Nodup) {i : Nat} (h : Thru s L1 i Y) {e : Ent} (c : L1[i]? = some e) : e ∈ Y := by
  obtain ⟨y, hy, hk, r | r⟩ := h.imem e (List.mem_of_getElem? c)
  · exact absurd r.1 (key_fresh n c)
  · exact r.2 ▸ hy
theorem thru_step {s : Int} {L1 Y : List Ent} {i : Nat} (h : Thru s L1 i Y) (n : (L1.map (·.k)).Nodup) {e : Ent} (c : L1[i]? = some e) (l : Nat) : Thru s L1 (i + 1) (putE Y e.k l (without e.ms s)) := by
  refine Keyed.put2 h (fun x y hx hk hy r => ?_) (fun x y hx hk hy r => ?_)
  · have hxe : x.k = e.k := hk.trans hy
    have : x = e := by
      have h1 := lay_mem n hx
      have h2 := lay_mem n (List.mem_of_getElem? c)
      rw [hxe] at h1
      exact Option.some.inj (h1.symm.trans h2)
    subst this
    exact .inl ⟨(take_key c _).mpr (.inr rfl), rfl⟩
  · rcases r with r | r
    · exact .inl ⟨(take_key c _).mpr (.inl r.1), r.2⟩
    · exact .inr ⟨fun z => by
        rcases (take_key c _).mp z with q | q
        · exact r.1 q
        · exact hy (hk.symm.trans q), r.2⟩
/-- whose members they are -/
theorem thru_ms {s : Int} {L1 Y : List Ent} {i : Nat} (h : Thru s L1 i Y) {y : Ent} (hy : y ∈ Y) {z : Nat × Member} (hz : z ∈ y.ms) : ∃ x ∈ L1, x.k = y.k ∧ z ∈ x.ms := by
  obtain ⟨x, hx, hk, r | r⟩ := h.mem y hy
  · rw [r.2] at hz; exact ⟨x, hx, hk, (without_mem hz).1⟩
  · rw [r.2] at hz; exact ⟨x, hx, hk, hz⟩
end Rs
namespace Rs
open Si24
/-! ### add, change -/
def Fits (z b m : Int) : Prop := (0 ≤ z ∧ z < 272) ∧ (0 ≤ b ∧ b ≤ 15) ∧ (0 ≤ m ∧ m ≤ 2)
instance (z b m : Int) : Decidable (Fits z b m) := inferInstanceAs (Decidable (_ ∧ _))
theorem fits_iff {z b m : Int} {d : Nat} (hd : d < 2 ^ 64) : (inRange z 0 (SOURCES + SETS - 1) && (inRange b 0 ALL && (inRange m 0 2 && decide (d < 2 ^ 64)))) = true ↔ Fits z b m := by
  rw [Bool.and_eq_true, Bool.and_eq_true, Bool.and_eq_true, inRange_iff, inRange_iff, inRange_iff, decide_eq_true_eq]
  have e1 : ((SOURCES + SETS - 1 : Nat) : Int) = 271 := rfl
  have e2 : ((ALL : Nat) : Int) = 15 := rfl
  rw [e1, e2]
  unfold Fits
  constructor
  · rintro ⟨⟨a, b⟩, ⟨c, d⟩, ⟨e, f⟩, _⟩
    exact ⟨⟨by omega, by omega⟩, ⟨by omega, by omega⟩, by omega, by omega⟩
  · rintro ⟨⟨a, b⟩, ⟨c, d⟩, e, f⟩
    exact ⟨⟨by omega, by omega⟩, ⟨by omega, by omega⟩, ⟨by omega, by omega⟩, hd⟩
theorem fits_not {z b m : Int} {d : Nat} (hd : d < 2 ^ 64) (n : ¬ Fits z b m) : (inRange z 0 (SOURCES + SETS - 1) && (inRange b 0 ALL && (inRange m 0 2 && decide (d < 2 ^ 64)))) = false := by
  rw [← Bool.not_eq_true, fits_iff hd]; exact n
theorem plain_add_1 {h : Ho} {k z b m : Int} {d : Nat} (hd : d < 2 ^ 64) (n : ¬ Fits z b m) : Si24.plain h.st (.add k z b m d) = (h.st, Si24.say (-1)) := by
  simp only [Si24.plain, fits_not hd n, if_true]
theorem plain_add_2 {h : Ho} (g : HG0 h) {k z b m : Int} {d : Nat} (hd : d < 2 ^ 64) (f : Fits z b m) (n : ¬ ∃ e ∈ h.L, k = (e.k : Int)) : Si24.plain h.st (.add k z b m d) = (h.st, Si24.say (-2)) := by
  simp only [Si24.plain, (fits_iff hd).mpr f, has_not g n, Bool.true_eq_false, if_false, true_or, if_true]
theorem plain_add_2s {h : Ho} (g : HG0 h) {k z b m : Int} {d : Nat} (hd : d < 2 ^ 64) (f : Fits z b m) (hz : 256 ≤ z) (n : ¬ ∃ e ∈ h.L, z - 256 = (e.k : Int)) : Si24.plain h.st (.add k z b m d) = (h.st, Si24.say (-2)) := by
  have h1 : SOURCES ≤ z.toNat := by show 256 ≤ z.toNat; omega
  have h2 : h.st.has (z - (SOURCES : Nat)) = false := has_not g n
  simp only [Si24.plain, (fits_iff hd).mpr f, h1, h2, Bool.true_eq_false, if_false, and_self, or_true, if_true]
theorem has_in {h : Ho} (g : HG0 h) {z : Int} (n : ∃ e ∈ h.L, z = (e.k : Int)) : h.st.has z = true := (has_key g z).mpr n
theorem plain_add_3 {h : Ho} (g : HG0 h) {e e' : Ent} (he : e ∈ h.L) (he' : e' ∈ h.L) {b m : Int} {d : Nat} (hd : d < 2 ^ 64) (f : Fits (256 + e'.k : Nat) b m) (q : m ≠ 0 ∨ inside h.st 16 e'.k e.k = true) :
    Si24.plain h.st (.add e.k (256 + e'.k : Nat) b m d) = (h.st, Si24.say (-3)) := by
  have h1 : SOURCES ≤ ((256 + e'.k : Nat) : Int).toNat := by show 256 ≤ _; omega
  have h2 : h.st.has (((256 + e'.k : Nat) : Int) - (SOURCES : Nat)) = true := has_in g ⟨e', he', by show _ - (256 : Int) = _; omega⟩
  have h3 : 256 + e'.k - SOURCES = e'.k := by show _ - 256 = _; omega
  simp only [Si24.plain, (fits_iff hd).mpr f, has_in g ⟨e, he, rfl⟩, h1, h2, Int.toNat_natCast, DEEP, Bool.true_eq_false, and_false, or_self, if_false]
  rw [if_pos ⟨h1, by rw [h3]; exact q⟩]
/-- nothing of the set stands in the way -/
def Free (h : Ho) (e : Ent) (z m : Int) : Prop := 256 ≤ z → m = 0 ∧ ∃ e' ∈ h.L, z = (256 + e'.k : Nat) ∧ inside h.st 16 e'.k e.k = false
theorem add_free {h : Ho} (g : HG0 h) {e : Ent} {z m : Int} (fr : Free h e z m) : ¬ (h.st.has (e.k : Int) = false ∨ (SOURCES ≤ z.toNat ∧ h.st.has (z - (SOURCES : Nat)) = false)) ∨ ¬ e ∈ h.L := by
  by_cases he : e ∈ h.L
  · refine .inl fun q => ?_
    rcases q with q | ⟨q1, q2⟩
    · rw [has_in g ⟨e, he, rfl⟩] at q; cases q
    · have hz : 256 ≤ z := by have : 256 ≤ z.toNat := q1; omega
      obtain ⟨_, e', he', rfl, _⟩ := fr hz
      rw [has_in g ⟨e', he', by show _ - (256 : Int) = _; omega⟩] at q2; cases q2
  · exact .inr he
theorem add_free2 {h : Ho} {e : Ent} {z m : Int} (fr : Free h e z m) : ¬ (SOURCES ≤ z.toNat ∧ (m ≠ 0 ∨ inside h.st 16 (z.toNat - SOURCES) e.k = true)) := by
  rintro ⟨q1, q2⟩
  have hz : 256 ≤ z := by have : 256 ≤ z.toNat := q1; omega
  obtain ⟨hm, e', he', rfl, hi⟩ := fr hz
  rcases q2 with q2 | q2
  · exact q2 hm
  · rw [show ((256 + e'.k : Nat) : Int).toNat - SOURCES = e'.k by show _ - 256 = _; omega, hi] at q2; cases q2
theorem plain_add_4 {h : Ho} (g : HG0 h) {e : Ent} (he : e ∈ h.L) {z b m : Int} {d : Nat} (hd : d < 2 ^ 64) (f : Fits z b m) (fr : Free h e z m) (n : (e.ms.any fun x => decide ((x.2.src : Int) = z)) = true) :
    Si24.plain h.st (.add e.k z b m d) = (h.st, Si24.say (-4)) := by
  have h1 := (add_free g fr).resolve_right fun q => q he
  have h2 := add_free2 fr
  simp only [Si24.plain, (fits_iff hd).mpr f, h1, Int.toNat_natCast, DEEP, h2, members_at g.good h.lvs he, Bool.true_eq_false, if_false]
  have h3 : (h.st.members e.k).any (fun m => m.src == z.toNat) = true := by
    rw [show h.st.members e.k = e.mem from members_at g.good h.lvs he, any_src e z f.1.1]; exact n
  rw [if_pos h3]
theorem plain_add_5 {h : Ho} (g : HG0 h) {e : Ent} (he : e ∈ h.L) {z b m : Int} {d : Nat} (hd : d < 2 ^ 64) (f : Fits z b m) (fr : Free h e z m) (n : (e.ms.any fun x => decide ((x.2.src : Int) = z)) = false) (hl : 64 ≤ e.ms.length) :
    Si24.plain h.st (.add e.k z b m d) = (h.st, Si24.say (-5)) := by
  have h1 := (add_free g fr).resolve_right fun q => q he
  have h2 := add_free2 fr
  have h3 : (h.st.members e.k).any (fun m => m.src == z.toNat) = false := by
    rw [show h.st.members e.k = e.mem from members_at g.good h.lvs he, any_src e z f.1.1]; exact n
  have h4 : MEMBERS ≤ (h.st.members e.k).length := by
    rw [show h.st.members e.k = e.mem from members_at g.good h.lvs he]
    show 64 ≤ (e.ms.map _).length
    rw [List.length_map]; exact hl
  simp only [Si24.plain, (fits_iff hd).mpr f, h1, Int.toNat_natCast, DEEP, h2, Bool.true_eq_false, if_false]
  rw [if_neg (by rw [h3]; decide), if_pos h4]
theorem plain_add {h : Ho} (g : HG0 h) {e : Ent} (he : e ∈ h.L) {z b m : Int} {d : Nat} (hd : d < 2 ^ 64) (f : Fits z b m) (fr : Free h e z m) (n : (e.ms.any fun x => decide ((x.2.src : Int) = z)) = false) (hl : e.ms.length < 64) (l a : Nat) :
    Si24.plain h.st (.add e.k z b m d) = (({ h with L := putE h.L e.k l (e.ms ++ [(a, h.st.member z b m d)]) } : Ho).st, Si24.say (e.ms.length + 1 : Nat)) := by
  have h1 := (add_free g fr).resolve_right fun q => q he
  have h2 := add_free2 fr
  have em : h.st.members e.k = e.mem := members_at g.good h.lvs he
  have h3 : (h.st.members e.k).any (fun m => m.src == z.toNat) = false := by rw [em, any_src e z f.1.1]; exact n
  have el : (h.st.members e.k).length = e.ms.length := by rw [em]; exact List.length_map _
  have h4 : ¬ MEMBERS ≤ (h.st.members e.k).length := by rw [el]; show ¬ 64 ≤ _; omega
  simp only [Si24.plain, (fits_iff hd).mpr f, h1, Int.toNat_natCast, DEEP, h2, Bool.true_eq_false, if_false]
  rw [if_neg (by rw [h3]; decide), if_neg h4, el, put_at g he, Int.toNat_natCast, em, List.map_append]
  rfl
theorem good_add {h : Ho} (g : HGood h) {e : Ent} (he : e ∈ h.L) {z b m : Int} {d : Nat} (f : Fits z b m) (fr : Free h e z m) (n : (e.ms.any fun x => decide ((x.2.src : Int) = z)) = false) (hl : e.ms.length < 64) {a : Nat}
    (na : ∀ x ∈ h.L, ∀ y ∈ x.ms, y.1 ≠ a) : HGood { h with L := putE h.L e.k e.l (e.ms ++ [(a, h.st.member z b m d)]) } := by
  have hsrc : (h.st.member z b m d).src = z.toNat := rfl
  refine g.put (g.toHG0.put (fun x hx hk => g.lnd x hx e he hk) (g.lvn e he) ?_ ?_ ?_ ?_ ?_) ?_
  · rw [List.map_append, List.nodup_append]
    refine ⟨g.mnd e he, by simp, fun x hx y hy q => ?_⟩
    obtain ⟨w, hw, rfl⟩ := List.mem_map.mp hx
    have : y = a := by simpa using hy
    exact na e he w hw (q.trans this)
  · intro x hx hk u hu v hv
    rcases List.mem_append.mp hu with q | q
    · exact g.mne e he x hx (Ne.symm hk) u q v hv
    · rw [List.mem_singleton.mp q]; exact (na x hx v hv).symm
  · rw [List.length_append]; show _ + 1 ≤ 64; omega
  · intro x hx hs
    rcases List.mem_append.mp hx with q | q
    · exact g.lev e he x q hs
    · rw [List.mem_singleton.mp q] at hs ⊢
      have hz : 256 ≤ z := by have : 256 ≤ z.toNat := hs; omega
      show modeOf m = .level ∧ false = false
      rw [(fr hz).1]; exact ⟨rfl, rfl⟩
  · rw [List.map_append, List.nodup_append]
    refine ⟨g.one e he, by simp, fun x hx y hy q => ?_⟩
    obtain ⟨w, hw, rfl⟩ := List.mem_map.mp hx
    have hy' : y = z.toNat := List.mem_singleton.mp hy
    have c := List.any_eq_false.mp n w hw
    have c' : ¬ (w.2.src : Int) = z := fun q => c (decide_eq_true q)
    have := f.1.1
    omega
  · intro x hx hs
    rcases List.mem_append.mp hx with q | q
    · exact g.kid e he x q hs
    · rw [List.mem_singleton.mp q] at hs ⊢
      have hz : 256 ≤ z := by have : 256 ≤ z.toNat := hs; omega
      obtain ⟨_, e', he', q, _⟩ := fr hz
      exact ⟨e', he', by show z.toNat = _; omega⟩
/-- a member that's told anew, in its place -/
def anew (ms : List (Nat × Member)) (z : Int) (y : Nat × Member) : List (Nat × Member) := ms.map fun x => if (x.2.src : Int) = z then y else x
theorem anew_fst {z : Int} {y : Nat × Member} : ∀ {ms : List (Nat × Member)}, (ms.map (·.1)).Nodup → (ms.map (·.2.src)).Nodup → (∀ x ∈ ms, x.1 ≠ y.1) → ((anew ms z y).map (·.1)).Nodup
  | [], _, _, _ => List.nodup_nil
  | x :: ms, n1, n2, na => by
    obtain ⟨a1, b1⟩ := List.nodup_cons.mp n1
    obtain ⟨a2, b2⟩ := List.nodup_cons.mp n2
    have ih := anew_fst (z := z) (y := y) b1 b2 fun w hw => na w (List.mem_cons_of_mem _ hw)
    show ((if (x.2.src : Int) = z then y else x).1 :: (anew ms z y).map (·.1)).Nodup
    refine List.nodup_cons.mpr ⟨fun q => ?_, ih⟩
    obtain ⟨w, hw, e⟩ := List.mem_map.mp q
    obtain ⟨v, hv, rfl⟩ := List.mem_map.mp hw
    by_cases hx : (x.2.src : Int) = z
    · rw [if_pos hx] at e
      by_cases hv' : (v.2.src : Int) = z
      · exact a2 (List.mem_map.mpr ⟨v, hv, by show v.2.src = x.2.src; omega⟩)
      · rw [if_neg hv'] at e
        exact na v (List.mem_cons_of_mem _ hv) e
    · rw [if_neg hx] at e
      by_cases hv' : (v.2.src : Int) = z
      · rw [if_pos hv'] at e
        exact na x List.mem_cons_self e.symm
      · rw [if_neg hv'] at e
        exact a1 (List.mem_map.mpr ⟨v, hv, e⟩)
theorem anew_src {z : Int} {y : Nat × Member} (hy : (y.2.src : Int) = z) (ms : List (Nat × Member)) : (anew ms z y).map (·.2.src) = ms.map (·.2.src) := by
  unfold anew
  rw [List.map_map]
  refine List.map_congr_left fun x _ => ?_
  show (if (x.2.src : Int) = z then y else x).2.src = x.2.src
  by_cases q : (x.2.src : Int) = z
  · rw [if_pos q]; omega
  · rw [if_neg q]
theorem anew_mem {z : Int} {y w : Nat × Member} {ms : List (Nat × Member)} (h : w ∈ anew ms z y) : (w = y ∧ ∃ x ∈ ms, (x.2.src : Int) = z) ∨ w ∈ ms := by
  obtain ⟨x, hx, e⟩ := List.mem_map.mp h
  by_cases q : (x.2.src : Int) = z
  · rw [if_pos q] at e; exact .inl ⟨e.symm, x, hx, q⟩
  · rw [if_neg q] at e; exact .inr (e ▸ hx)
theorem plain_change_1 {h : Ho} {k z b m : Int} {d : Nat} (hd : d < 2 ^ 64) (n : ¬ Fits z b m) : Si24.plain h.st (.change k z b m d) = (h.st, Si24.say (-1)) := by
  simp only [Si24.plain, fits_not hd n, if_true]
theorem plain_change_2 {h : Ho} (g : HG0 h) {k z b m : Int} {d : Nat} (hd : d < 2 ^ 64) (f : Fits z b m) (n : ¬ ∃ e ∈ h.L, k = (e.k : Int)) : Si24.plain h.st (.change k z b m d) = (h.st, Si24.say (-2)) := by
  simp only [Si24.plain, (fits_iff hd).mpr f, has_not g n, Bool.true_eq_false, if_false, true_or, if_true]
theorem plain_change_2m {h : Ho} (g : HG0 h) {e : Ent} (he : e ∈ h.L) {z b m : Int} {d : Nat} (hd : d < 2 ^ 64) (f : Fits z b m) (n : (e.ms.any fun x => decide ((x.2.src : Int) = z)) = false) : Si24.plain h.st (.change e.k z b m d) = (h.st, Si24.say (-2)) := by
  simp only [Si24.plain, (fits_iff hd).mpr f, has_in g ⟨e, he, rfl⟩, mem_at g he, any_src e z f.1.1, n, Bool.true_eq_false, if_false, or_true, if_true]
theorem plain_change_3 {h : Ho} (g : HG0 h) {e : Ent} (he : e ∈ h.L) {z b m : Int} {d : Nat} (hd : d < 2 ^ 64) (f : Fits z b m) (n : (e.ms.any fun x => decide ((x.2.src : Int) = z)) = true) (hz : 256 ≤ z) (hm : m ≠ 0) :
    Si24.plain h.st (.change e.k z b m d) = (h.st, Si24.say (-3)) := by
  have h1 : SOURCES ≤ z.toNat := by show 256 ≤ _; omega
  simp only [Si24.plain, (fits_iff hd).mpr f, has_in g ⟨e, he, rfl⟩, mem_at g he, any_src e z f.1.1, n, h1, hm, Bool.true_eq_false, or_self, if_false, ne_eq, not_false_eq_true, and_self, if_true]
theorem plain_change {h : Ho} (g : HG0 h) {e : Ent} (he : e ∈ h.L) {z b m : Int} {d : Nat} (hd : d < 2 ^ 64) (f : Fits z b m) (n : (e.ms.any fun x => decide ((x.2.src : Int) = z)) = true) (hm : 256 ≤ z → m = 0) (l a : Nat) :
    Si24.plain h.st (.change e.k z b m d) = (({ h with L := putE h.L e.k l (anew e.ms z (a, h.st.member z b m d)) } : Ho).st, Si24.say 0) := by
  have h1 : ¬ (SOURCES ≤ z.toNat ∧ m ≠ 0) := fun ⟨q1, q2⟩ => q2 (hm (by have : 256 ≤ z.toNat := q1; omega))
  have e1 : (anew e.ms z (a, h.st.member z b m d)).map (·.2) = e.mem.map fun x => if x.src = z.toNat then h.st.member z b m d else x := by
    unfold anew Ent.mem
    rw [List.map_map, List.map_map]
    refine List.map_congr_left fun x _ => ?_
    show (if (x.2.src : Int) = z then (a, h.st.member z b m d) else x).2 = if x.2.src = z.toNat then _ else x.2
    have := f.1.1
    by_cases q : (x.2.src : Int) = z
    · rw [if_pos q, if_pos (by omega)]
    · rw [if_neg q, if_neg (by omega)]
  simp only [Si24.plain, (fits_iff hd).mpr f, has_in g ⟨e, he, rfl⟩, mem_at g he, any_src e z f.1.1, n, h1, put_at g he, e1, Bool.true_eq_false, or_self, if_false]
theorem good_change {h : Ho} (g : HGood h) {e : Ent} (he : e ∈ h.L) {z b m : Int} {d : Nat} (f : Fits z b m) (hm : 256 ≤ z → m = 0) {l a : Nat} (nl : ∀ x ∈ h.L, x.l ≠ l) (nlv : l ≠ h.lv)
    (na : ∀ x ∈ h.L, ∀ y ∈ x.ms, y.1 ≠ a) : HGood { h with L := putE h.L e.k l (anew e.ms z (a, h.st.member z b m d)) } := by
  have hz0 := f.1.1
  have hsrc : ((h.st.member z b m d).src : Int) = z := by show (z.toNat : Int) = z; omega
  refine g.put (g.toHG0.put (fun x hx _ => nl x hx) nlv (anew_fst (g.mnd e he) (g.one e he) fun x hx => na e he x hx) ?_ (by unfold anew; rw [List.length_map]; exact g.few e he) ?_ (by rw [anew_src hsrc]; exact g.one e he)) ?_
  · intro x hx hk u hu v hv
    rcases anew_mem hu with ⟨q, _⟩ | q
    · rw [q]; exact (na x hx v hv).symm
    · exact g.mne e he x hx (Ne.symm hk) u q v hv
  · intro x hx hs
    rcases anew_mem hx with ⟨q, _⟩ | q
    · rw [q] at hs ⊢
      show modeOf m = .level ∧ false = false
      rw [hm (by have : 256 ≤ z.toNat := hs; omega)]; exact ⟨rfl, rfl⟩
    · exact g.lev e he x q hs
  · intro x hx hs
    rcases anew_mem hx with ⟨q, w, hw, ew⟩ | q
    · rw [q] at hs ⊢
      obtain ⟨e', he', q'⟩ := g.kid e he w hw (by have : 256 ≤ z.toNat := hs; omega)
      exact ⟨e', he', by show z.toNat = _; omega⟩
    · exact g.kid e he x q hs
end Rs
namespace Rs
open Si24
/-! ### level, poke -/
def lifted (ms : List (Nat × Member)) (src up : Nat) : List (Nat × Member) := ms.map fun x => (x.1, if x.2.src = src then { x.2 with risen := x.2.risen ||| up } else x.2)
def Ho.turned (h : Ho) (src new up : Nat) : Ho := { h with lvs := h.lvs.set src new, L := h.L.map fun e => ⟨e.k, e.l, lifted e.ms src up⟩ }
theorem lifted_fst (ms : List (Nat × Member)) (src up : Nat) : (lifted ms src up).map (·.1) = ms.map (·.1) := by
  unfold lifted; rw [List.map_map]; rfl
theorem lifted_src (ms : List (Nat × Member)) (src up : Nat) : (lifted ms src up).map (·.2.src) = ms.map (·.2.src) := by
  unfold lifted
  rw [List.map_map]
  refine List.map_congr_left fun x _ => ?_
  show (if x.2.src = src then _ else x.2).src = x.2.src
  split <;> rfl
theorem lifted_mem {ms : List (Nat × Member)} {src up : Nat} {y : Nat × Member} (h : y ∈ lifted ms src up) : ∃ x ∈ ms, y.1 = x.1 ∧ y.2.src = x.2.src ∧ y.2.mode = x.2.mode ∧ y.2.sleeps = x.2.sleeps := by
  obtain ⟨x, hx, rfl⟩ := List.mem_map.mp h
  refine ⟨x, hx, rfl, ?_, ?_, ?_⟩
  · show (if x.2.src = src then _ else x.2).src = _
    split <;> rfl
  · show (if x.2.src = src then _ else x.2).mode = _
    split <;> rfl
  · show (if x.2.src = src then _ else x.2).sleeps = _
    split <;> rfl
theorem mem_turned {h : Ho} {src new up : Nat} {x : Ent} (hx : x ∈ (h.turned src new up).L) : ∃ y ∈ h.L, x = ⟨y.k, y.l, lifted y.ms src up⟩ := by
  obtain ⟨y, hy, e⟩ := List.mem_map.mp hx
  exact ⟨y, hy, e.symm⟩
theorem good_turned {h : Ho} (g : HGood h) {src new up : Nat} (hn : new ≤ 15) : HGood (h.turned src new up) where
  good := good_map g.good fun _ => rfl
  lnd := fun x hx y hy hk => by
    obtain ⟨x', hx', rfl⟩ := mem_turned hx
    obtain ⟨y', hy', rfl⟩ := mem_turned hy
    exact g.lnd x' hx' y' hy' hk
  lvn := fun x hx => by
    obtain ⟨x', hx', rfl⟩ := mem_turned hx
    exact g.lvn x' hx'
  mnd := fun x hx => by
    obtain ⟨x', hx', rfl⟩ := mem_turned hx
    show ((lifted x'.ms src up).map (·.1)).Nodup
    rw [lifted_fst]; exact g.mnd x' hx'
  mne := fun x hx y hy hk a ha b hb => by
    obtain ⟨x', hx', rfl⟩ := mem_turned hx
    obtain ⟨y', hy', rfl⟩ := mem_turned hy
    obtain ⟨a', ha', q1, _⟩ := lifted_mem ha
    obtain ⟨b', hb', q2, _⟩ := lifted_mem hb
    rw [q1, q2]
    exact g.mne x' hx' y' hy' hk a' ha' b' hb'
  llen := by show (h.lvs.set src new).length = 256; rw [List.length_set]; exact g.llen
  lbit := fun n hm => by
    rcases List.mem_or_eq_of_mem_set (show n ∈ h.lvs.set src new from hm) with q | q
    · exact g.lbit n q
    · rw [q]; exact hn
  few := fun x hx => by
    obtain ⟨x', hx', rfl⟩ := mem_turned hx
    show (List.map _ _).length ≤ 64
    rw [List.length_map]; exact g.few x' hx'
  lev := fun x hx z hz hs => by
    obtain ⟨x', hx', rfl⟩ := mem_turned hx
    obtain ⟨a', ha', _, q1, q2, q3⟩ := lifted_mem hz
    rw [q2, q3]
    exact g.lev x' hx' a' ha' (q1 ▸ hs)
  one := fun x hx => by
    obtain ⟨x', hx', rfl⟩ := mem_turned hx
    show ((lifted x'.ms src up).map (·.2.src)).Nodup
    rw [lifted_src]; exact g.one x' hx'
  kid := fun x hx z hz hs => by
    obtain ⟨x', hx', rfl⟩ := mem_turned hx
    obtain ⟨a', ha', _, q1, _⟩ := lifted_mem hz
    rw [q1] at hs ⊢
    obtain ⟨e', he', q⟩ := g.kid x' hx' a' ha' hs
    exact ⟨⟨e'.k, e'.l, lifted e'.ms src up⟩, List.mem_map.mpr ⟨e', he', rfl⟩, q⟩
theorem turned_st (h : Ho) (src new more : Nat) : (h.turned src new ((new &&& (15 - h.lvs.getD src 0)) ||| more)).st = h.st.turned src new more := by
  unfold St.turned St.mapAll
  show absSt (h.lvs.set src new) (h.turned src new _).L = _
  unfold absSt
  congr 1
  have := abs_map (L := h.L) (g := fun e => ⟨e.k, e.l, lifted e.ms src ((new &&& (15 - h.lvs.getD src 0)) ||| more)⟩)
    (F := fun l => l.map fun m => if m.src = src then { m with risen := m.risen ||| ((new &&& (ALL - h.lvs.getD src 0)) ||| more) } else m) (fun _ => rfl) fun e _ => by
      show (lifted e.ms src _).map (·.2) = _
      unfold lifted Ent.mem
      rw [List.map_map, List.map_map]
      rfl
  exact this
theorem lv_in {z b : Int} (h : (0 ≤ z ∧ z < 256) ∧ 0 ≤ b ∧ b ≤ 15) : (inRange z 0 (SOURCES - 1) && inRange b 0 ALL) = true := by
  rw [Bool.and_eq_true, inRange_iff, inRange_iff]
  have e1 : ((SOURCES - 1 : Nat) : Int) = 255 := rfl
  have e2 : ((ALL : Nat) : Int) = 15 := rfl
  rw [e1, e2]
  exact ⟨⟨by omega, by omega⟩, by omega, by omega⟩
theorem lv_out {z b : Int} (h : ¬ ((0 ≤ z ∧ z < 256) ∧ 0 ≤ b ∧ b ≤ 15)) : (inRange z 0 (SOURCES - 1) && inRange b 0 ALL) = false := by
  rw [← Bool.not_eq_true, Bool.and_eq_true, inRange_iff, inRange_iff]
  have e1 : ((SOURCES - 1 : Nat) : Int) = 255 := rfl
  have e2 : ((ALL : Nat) : Int) = 15 := rfl
  rw [e1, e2]
  rintro ⟨⟨a, b⟩, c, d⟩
  exact h ⟨⟨by omega, by omega⟩, by omega, by omega⟩
theorem plain_level_1 {h : Ho} {z b : Int} (q : ¬ ((0 ≤ z ∧ z < 256) ∧ 0 ≤ b ∧ b ≤ 15)) : Si24.plain h.st (.level z b) = (h.st, Si24.say (-1)) := by
  simp only [Si24.plain, lv_out q, if_true]
theorem plain_poke_1 {h : Ho} {z b : Int} (q : ¬ ((0 ≤ z ∧ z < 256) ∧ 0 ≤ b ∧ b ≤ 15)) : Si24.plain h.st (.poke z b) = (h.st, Si24.say (-1)) := by
  simp only [Si24.plain, lv_out q, if_true]
theorem plain_level {h : Ho} {z b : Nat} (q : z < 256 ∧ b ≤ 15) : Si24.plain h.st (.level z b) = ((h.turned z b ((b &&& (15 - h.lvs.getD z 0)) ||| 0)).st, Si24.say 0) := by
  have e := lv_in (z := z) (b := b) ⟨⟨by omega, by omega⟩, by omega, by omega⟩
  rw [turned_st]
  simp only [Si24.plain, e, Bool.true_eq_false, if_false, Int.toNat_natCast]
theorem plain_poke {h : Ho} {z b : Nat} (q : z < 256 ∧ b ≤ 15) : Si24.plain h.st (.poke z b) = ((h.turned z (h.lvs.getD z 0 ||| b) (((h.lvs.getD z 0 ||| b) &&& (15 - h.lvs.getD z 0)) ||| b)).st, Si24.say 0) := by
  have e := lv_in (z := z) (b := b) ⟨⟨by omega, by omega⟩, by omega, by omega⟩
  rw [turned_st]
  simp only [Si24.plain, e, Bool.true_eq_false, if_false, Int.toNat_natCast]
  rfl
/-- what turns on by a poke is what is poked -/
theorem poke_up : ∀ (o : Fin 16) (b : Fin 16), ((o.val ||| b.val) &&& (15 - o.val)) ||| b.val = b.val := by decide
theorem level_up : ∀ (o : Fin 16) (b : Fin 16), b.val &&& (15 - o.val) = b.val - (b.val &&& o.val) := by decide
theorem or_le15 : ∀ (o : Fin 16) (b : Fin 16), o.val ||| b.val ≤ 15 := by decide
theorem lv_le {h : Ho} (g : HG0 h) (z : Nat) : h.lvs.getD z 0 ≤ 15 := by
  rw [List.getD_eq_getElem?_getD]
  cases c : h.lvs[z]? with
  | none => exact Nat.zero_le _
  | some n => exact g.lbit n (List.mem_of_getElem? c)

/-! ### gone -/
theorem gone_in {z : Int} (h : 0 ≤ z ∧ z < 256) : inRange z 0 (SOURCES - 1) = true := (inRange_iff _ _ _).mpr ⟨by omega, by have : ((SOURCES - 1 : Nat) : Int) = 255 := rfl; omega⟩
theorem gone_out {z : Int} (h : ¬ (0 ≤ z ∧ z < 256)) : inRange z 0 (SOURCES - 1) = false := (inR_iff _ _ _).mpr fun ⟨a, b⟩ => h ⟨by omega, by have : ((SOURCES - 1 : Nat) : Int) = 255 := rfl; omega⟩
theorem plain_gone_1 {h : Ho} {z : Int} (q : ¬ (0 ≤ z ∧ z < 256)) : Si24.plain h.st (.gone z) = (h.st, Si24.say (-1)) := by
  simp only [Si24.plain, gone_out q, if_true]
theorem filter_cnt (f : Nat → Bool) : ∀ n, ((List.range n).filter f).length = cnt f n
  | 0 => rfl
  | n + 1 => by
    rw [List.range_succ, List.filter_append, List.length_append, filter_cnt f n]
    show _ + (List.filter f [n]).length = cnt f n + (if f n = true then 1 else 0)
    by_cases q : f n = true
    · rw [if_pos q, List.filter_cons_of_pos q]; rfl
    · rw [if_neg q, List.filter_cons_of_neg q]; rfl
theorem cnt_set {f g : Nat → Bool} {j : Nat} : ∀ n, (∀ k, k ≠ j → g k = f k) → f j = false → cnt g n = cnt f n + (if j < n ∧ g j = true then 1 else 0)
  | 0, _, _ => by simp [cnt]
  | n + 1, h, hj => by
    have ih := cnt_set n h hj
    show cnt g n + (if g n = true then 1 else 0) = cnt f n + (if f n = true then 1 else 0) + (if j < n + 1 ∧ g j = true then 1 else 0)
    by_cases q : n = j
    · subst q
      rw [if_neg (fun c => absurd c.1 (Nat.lt_irrefl _))] at ih
      rw [if_neg (show ¬ f n = true by rw [hj]; decide)]
      by_cases z : g n = true
      · rw [if_pos z, if_pos ⟨Nat.lt_succ_self _, z⟩]; omega
      · rw [if_neg z, if_neg (fun c => z c.2)]; omega
    · rw [h n q]
      by_cases z : j < n ∧ g j = true
      · rw [if_pos z] at ih
        rw [if_pos (show j < n + 1 ∧ g j = true from ⟨by omega, z.2⟩)]; omega
      · rw [if_neg z] at ih
        rw [if_neg (show ¬ (j < n + 1 ∧ g j = true) from fun c => z ⟨by omega, c.2⟩)]; omega
theorem count_lay (p : List Member → Bool) : ∀ {L : List Ent}, Good L → cnt (fun k => ((lay L k).map fun e => p e.mem).getD false) 16 = (L.filter fun e => p e.mem).length
  | [], _ => by
    rw [List.filter_nil, ← filter_cnt]; rfl
  | e :: L, G => by
    obtain ⟨n1, n2⟩ := List.nodup_cons.mp G.nd
    have G' : Good L := ⟨n2, fun x hx => G.lt x (List.mem_cons_of_mem _ hx)⟩
    have ih := count_lay p G'
    have hn : lay L e.k = none := lay_none.mpr fun x hx q => n1 (List.mem_map.mpr ⟨x, hx, q⟩)
    rw [cnt_set (f := fun k => ((lay L k).map fun e => p e.mem).getD false) (j := e.k) 16 (fun k hk => by show _ = _; rw [lay_cons, if_neg (fun z => hk z.symm)]) (by show _ = false; rw [hn]; rfl), ih]
    have h1 : ((lay (e :: L) e.k).map fun e => p e.mem).getD false = p e.mem := by rw [lay_cons, if_pos rfl]; rfl
    have hk := G.lt e List.mem_cons_self
    by_cases q : p e.mem = true
    · rw [if_pos ⟨hk, by show _ = true; rw [h1]; exact q⟩, List.filter_cons, if_pos q]; rfl
    · rw [if_neg (fun c => q (by have := c.2; rw [h1] at this; exact this)), List.filter_cons, if_neg q]; rfl
theorem count_sets {h : Ho} (g : HG0 h) (src : Nat) : (h.st.sets.filter fun y => (y.getD []).any fun m => m.src == src).length = (h.L.filter fun e => e.ms.any fun x => decide ((x.2.src : Int) = (src : Int))).length := by
  have e1 : (h.L.filter fun e => e.ms.any fun x => decide ((x.2.src : Int) = (src : Int))) = h.L.filter fun e => e.mem.any fun m => m.src == src :=
    List.filter_congr fun e _ => (any_src e src (Int.natCast_nonneg _)).symm.trans (by rw [Int.toNat_natCast])
  rw [e1, ← count_lay (fun l => l.any fun m => m.src == src) g.good, ← filter_cnt]
  have e2 : h.st.sets = (List.range 16).map fun k => (lay h.L k).map Ent.mem := rfl
  rw [e2, List.filter_map, List.length_map]
  refine congrArg List.length (List.filter_congr fun k _ => ?_)
  show (((lay h.L k).map Ent.mem).getD []).any _ = _
  cases lay h.L k <;> rfl
theorem plain_gone {h : Ho} (g : HG0 h) {src : Nat} (hs : src < 256) {L' : List Ent} (hL : Keyed (fun x y => y.ms = without x.ms src) h.L L') :
    Si24.plain h.st (.gone src) = (({ h with lvs := h.lvs.set src 0, L := L' } : Ho).st, Si24.say ((h.L.filter fun e => e.ms.any fun x => decide ((x.2.src : Int) = (src : Int))).length : Nat)) := by
  have e1 : ({ h with lvs := h.lvs.set src 0, L := L' } : Ho).st = { levels := h.st.levels.set src 0, sets := h.st.sets.map fun y => y.map fun l => l.filter fun m => m.src != src } := by
    show absSt (h.lvs.set src 0) L' = _
    unfold absSt
    congr 1
    exact Keyed.abs (F := fun l => l.filter fun m => m.src != src) (hL.imp fun x y q => by unfold Ent.mem; rw [q]; exact without_map rfl)
  rw [e1]
  simp only [Si24.plain, gone_in (show 0 ≤ (src : Int) ∧ (src : Int) < 256 by omega), Bool.true_eq_false, if_false, Int.toNat_natCast, count_sets g]
/-! ### ready, told -/
theorem plain_ready_no {h : Ho} (g : HG0 h) {z : Int} (n : ¬ ∃ e ∈ h.L, z = (e.k : Int)) : Si24.plain h.st (.isReady z) = (h.st, Si24.say (-2)) := by
  simp only [Si24.plain, has_not g n, if_true]
theorem plain_ready {h : Ho} (g : HG0 h) {e : Ent} (he : e ∈ h.L) : Si24.plain h.st (.isReady e.k) = (h.st, Si24.say (if h.st.isReady e.k = true then 1 else 0)) := by
  simp only [Si24.plain, has_in g ⟨e, he, rfl⟩, Bool.true_eq_false, if_false, Int.toNat_natCast]
theorem plain_told_no {h : Ho} (g : HG0 h) {z : Int} (n : ¬ ∃ e ∈ h.L, z = (e.k : Int)) : Si24.plain h.st (.told z) = (h.st, Si24.say (-2)) := by
  simp only [Si24.plain, has_not g n, if_true]
def toldOf (m : Member) : List Nat := [m.src, m.bits, if m.mode = .level then 0 else if m.mode = .edge then 1 else 2, m.data, m.risen, if m.sleeps = true then 1 else 0]
theorem plain_told {h : Ho} (g : HG0 h) {e : Ent} (he : e ∈ h.L) : Si24.plain h.st (.told e.k) = (h.st, ⟨(e.ms.length : Nat), e.ms.flatMap fun x => toldOf x.2, []⟩) := by
  have el : e.mem.length = e.ms.length := List.length_map _
  have e2 : (e.mem.flatMap fun m => toldOf m) = e.ms.flatMap fun x => toldOf x.2 := by
    unfold Ent.mem
    rw [List.flatMap_map]
  rw [← e2, ← el]
  simp only [Si24.plain, has_in g ⟨e, he, rfl⟩, mem_at g he, Bool.true_eq_false, if_false]
  rfl
/-! ### wait -/
/-- those that stay in turn, those that are taken -/
def takeA (sh : Member → Nat) : Nat → List (Nat × Member) → List (Nat × Member) × List (Nat × Member)
  | _, [] => ([], [])
  | n, x :: l => if sh x.2 = 0 ∨ n = 0 then (x :: (takeA sh n l).1, (takeA sh n l).2) else ((takeA sh (n - 1) l).1, x :: (takeA sh (n - 1) l).2)
def after (m : Member) : Member := { m with risen := if m.src < SOURCES ∧ m.mode = .edge then 0 else m.risen, sleeps := m.mode == .once }
theorem taken_eq (s : St) : ∀ (n : Nat) (l : List (Nat × Member)), taken s n (l.map (·.2)) = ((takeA s.shown n l).1.map (·.2), (takeA s.shown n l).2.map (fun x => (x.2.data, s.shown x.2)), (takeA s.shown n l).2.map (fun x => after x.2))
  | n, [] => rfl
  | n, x :: l => by
    have h1 := taken_eq s n l
    have h2 := taken_eq s (n - 1) l
    rw [List.map_cons]
    unfold taken takeA
    simp only
    by_cases q : s.shown x.2 = 0 ∨ n = 0
    · rw [if_pos q, if_pos q, h1]; rfl
    · rw [if_neg q, if_neg q, h2]; rfl
theorem takeA_taken (sh : Member → Nat) : ∀ (n : Nat) (l : List (Nat × Member)), (takeA sh n l).2 = (l.filter fun x => sh x.2 != 0).take n
  | n, [] => by unfold takeA; simp
  | n, x :: l => by
    unfold takeA
    by_cases q : sh x.2 = 0
    · rw [if_pos (.inl q), List.filter_cons, if_neg (by rw [q]; decide)]; exact takeA_taken sh n l
    · rw [List.filter_cons, if_pos (bne_iff_ne.mpr q)]
      cases n with
      | zero => rw [if_pos (.inr rfl)]; show (takeA sh 0 l).2 = _; rw [takeA_taken sh 0 l, List.take_zero, List.take_zero]
      | succ n =>
        rw [if_neg (by rintro (z | z); · exact q z
                       · cases z)]
        show x :: (takeA sh n l).2 = _
        rw [takeA_taken sh n l, List.take_succ_cons]
theorem most_in {z : Int} (h : 1 ≤ z ∧ z ≤ 64) : inRange z 1 MEMBERS = true := (inRange_iff _ _ _).mpr ⟨by omega, by have : ((MEMBERS : Nat) : Int) = 64 := rfl; omega⟩
theorem most_out {z : Int} (h : ¬ (1 ≤ z ∧ z ≤ 64)) : inRange z 1 MEMBERS = false := (inR_iff _ _ _).mpr fun ⟨a, b⟩ => h ⟨by omega, by have : ((MEMBERS : Nat) : Int) = 64 := rfl; omega⟩
theorem plain_wait_1 {h : Ho} {k z : Int} (q : ¬ (1 ≤ z ∧ z ≤ 64)) : Si24.plain h.st (.wait k z) = (h.st, Si24.say (-1)) := by
  simp only [Si24.plain, most_out q, if_true]
theorem plain_wait_2 {h : Ho} (g : HG0 h) {k z : Int} (q : 1 ≤ z ∧ z ≤ 64) (n : ¬ ∃ e ∈ h.L, k = (e.k : Int)) : Si24.plain h.st (.wait k z) = (h.st, Si24.say (-2)) := by
  simp only [Si24.plain, most_in q, has_not g n, Bool.true_eq_false, if_false, if_true]
theorem plain_wait {h : Ho} (g : HG0 h) {e : Ent} (he : e ∈ h.L) {n : Nat} (q : 1 ≤ n ∧ n ≤ 64) (l : Nat) :
    Si24.plain h.st (.wait e.k n) = (({ h with L := putE h.L e.k l ((takeA h.st.shown n e.ms).1 ++ (takeA h.st.shown n e.ms).2.map fun x => (x.1, after x.2)) } : Ho).st,
      ⟨((takeA h.st.shown n e.ms).2.length : Nat), (takeA h.st.shown n e.ms).2.flatMap fun x => [x.2.data, h.st.shown x.2], []⟩) := by
  have em : h.st.members e.k = e.ms.map (·.2) := members_at g.good h.lvs he
  rw [put_at g he]
  simp only [Si24.plain, most_in (show 1 ≤ (n : Int) ∧ (n : Int) ≤ 64 by omega), has_in g ⟨e, he, rfl⟩, Bool.true_eq_false, if_false, Int.toNat_natCast, em, taken_eq]
  rw [List.map_append, List.map_map, List.length_map, List.flatMap_map]
  rfl
end Rs
namespace Rs
open Si24
theorem isReady_lt {h : Ho} {k : Nat} (q : h.st.isReady k = true) : k < 16 := by
  by_cases c : k < 16
  · exact c
  · have := ready_out (s := h.st) (k := k) (by have := st_len h; omega) 17
    rw [show h.st.isReady k = ready h.st 17 k from rfl, this] at q
    cases q
theorem sorted_unique {l m : List Int} (p : l.Perm m) (a : l.Pairwise (· ≤ ·)) (b : m.Pairwise (· ≤ ·)) : l = m :=
  p.eq_of_pairwise (fun x y _ _ h1 h2 => Int.le_antisymm h1 h2) a b
/-- who is ready, rising -/
theorem sorted_ready {h : Ho} {S : List Nat} (n : S.Nodup) (i : ∀ k, k ∈ S ↔ h.st.isReady k = true) {ns : List Int} (p : ns.Perm (S.map fun k : Nat => (k : Int))) (s : ns.Pairwise (· ≤ ·)) :
    ns = ((List.range 16).filter h.st.isReady).map fun k : Nat => (k : Int) := by
  have q : S.Perm ((List.range 16).filter h.st.isReady) := (List.perm_ext_iff_of_nodup n (List.Sublist.nodup List.filter_sublist List.nodup_range)).mpr fun k => by
    rw [i, List.mem_filter, List.mem_range]
    exact ⟨fun z => ⟨isReady_lt z, z⟩, fun z => z.2⟩
  refine sorted_unique (p.trans (q.map _)) s ?_
  rw [List.pairwise_map]
  exact (List.Pairwise.filter _ List.pairwise_lt_range).imp fun h => by omega
theorem woken_eq {h h' : Ho} {S : List Nat} (i : ∀ k, k ∈ S ↔ h.st.isReady k = true) : (((List.range 16).filter h'.st.isReady).filter fun k => !decide (k ∈ S)) = Si24.woken h.st h'.st := by
  unfold Si24.woken
  rw [List.filter_filter]
  refine List.filter_congr fun k _ => ?_
  have : decide (k ∈ S) = h.st.isReady k := Bool.eq_iff_iff.mpr (by rw [decide_eq_true_eq]; exact i k)
  rw [this]
theorem woken_len (s t : St) : (Si24.woken s t).length ≤ 16 := by
  unfold Si24.woken
  exact Nat.le_trans (List.length_filter_le _ _) (by rw [List.length_range]; decide)
end Rs
namespace Rs
/-! ### a list of calls, call by call -/
/-- a number from 0 to 11 -/
theorem twelve {M : Int → Prop} {p : Int} (h0 : 0 ≤ p) (h1 : p ≤ 11) (m : ∀ n : Fin 12, M (n.val : Int)) : M p := by
  obtain ⟨n, rfl⟩ := Int.eq_ofNat_of_zero_le h0
  exact m ⟨n, by omega⟩
/-- how many numbers stand behind a call's own -/
def behind (p : Int) : Nat := if p = 0 then 0 else if p = 1 then 0 else if p = 2 then 1 else if p = 3 then 5 else if p = 4 then 5 else if p = 5 then 2 else if p = 6 then 2 else if p = 7 then 2 else if p = 8 then 1 else if p = 9 then 2 else 1
theorem shape_none {p : Int} (h : ¬ (0 ≤ p ∧ p ≤ 11)) : PySi24.shape p = none := by
  have n : ∀ k : Int, 0 ≤ k ∧ k ≤ 11 → ¬ p = k := fun k hk e => h (e ▸ hk)
  unfold PySi24.shape
  rw [if_neg (n 0 (by decide)), if_neg (n 1 (by decide)), if_neg (n 2 (by decide)), if_neg (n 3 (by decide)), if_neg (n 4 (by decide)), if_neg (n 5 (by decide)), if_neg (n 6 (by decide)), if_neg (n 7 (by decide)), if_neg (n 8 (by decide)), if_neg (n 9 (by decide)), if_neg (n 10 (by decide)), if_neg (n 11 (by decide))]
theorem shape_in {p : Int} (h0 : 0 ≤ p) (h1 : p ≤ 11) : PySi24.shape p = some (behind p, 0) :=
  twelve (M := fun p => PySi24.shape p = some (behind p, 0)) h0 h1 (by decide)
theorem shape_some {p : Int} {x : Nat × Nat} (h : PySi24.shape p = some x) : 0 ≤ p ∧ p ≤ 11 ∧ x = (behind p, 0) := by
  by_cases q : 0 ≤ p ∧ p ≤ 11
  · rw [shape_in q.1 q.2] at h
    exact ⟨q.1, q.2, (Option.some.inj h).symm⟩
  · rw [shape_none q] at h
    cases h
/-- what a call of these numbers is like -/
theorem by_call {M : List Int → Prop} {p : Int} {r : List Int} (h0 : 0 ≤ p) (h1 : p ≤ 11) (hl : behind p ≤ r.length) (m0 : M [0]) (m1 : M [1]) (m2 : ∀ a, M [2, a]) (m3 : ∀ a b c d e, M [3, a, b, c, d, e]) (m4 : ∀ a b c d e, M [4, a, b, c, d, e]) (m5 : ∀ a b, M [5, a, b])
    (m6 : ∀ a b, M [6, a, b]) (m7 : ∀ a b, M [7, a, b]) (m8 : ∀ a, M [8, a]) (m9 : ∀ a b, M [9, a, b]) (m10 : ∀ a, M [10, a]) (m11 : ∀ a, M [11, a]) : M (p :: r.take (behind p)) := by
  revert hl
  refine twelve (M := fun p => behind p ≤ r.length → M (p :: r.take (behind p))) h0 h1 fun n => ?_
  match n with
  | ⟨0, _⟩ => exact fun _ => m0
  | ⟨1, _⟩ => exact fun _ => m1
  | ⟨2, _⟩ => exact fun hl => match r, hl with | a :: _, _ => m2 a
  | ⟨3, _⟩ => exact fun hl => match r, hl with | a :: b :: c :: d :: e :: _, _ => m3 a b c d e
  | ⟨4, _⟩ => exact fun hl => match r, hl with | a :: b :: c :: d :: e :: _, _ => m4 a b c d e
  | ⟨5, _⟩ => exact fun hl => match r, hl with | a :: b :: _, _ => m5 a b
  | ⟨6, _⟩ => exact fun hl => match r, hl with | a :: b :: _, _ => m6 a b
  | ⟨7, _⟩ => exact fun hl => match r, hl with | a :: b :: _, _ => m7 a b
  | ⟨8, _⟩ => exact fun hl => match r, hl with | a :: _, _ => m8 a
  | ⟨9, _⟩ => exact fun hl => match r, hl with | a :: b :: _, _ => m9 a b
  | ⟨10, _⟩ => exact fun hl => match r, hl with | a :: _, _ => m10 a
  | ⟨11, _⟩ => exact fun hl => match r, hl with | a :: _, _ => m11 a
/-- what is left to be called: these calls -/
def Parse (l : List Int) (cs : List (List (List Int))) : Prop := ∃ f, PyFlat.calls PySi24.shape f l = some cs
theorem parse_nil {cs : List (List (List Int))} (h : Parse [] cs) : cs = [] := by
  obtain ⟨f, h⟩ := h
  unfold PyFlat.calls at h
  exact (Option.some.inj h).symm
theorem parse_cons {p : Int} {r : List Int} {cs : List (List (List Int))} (h : Parse (p :: r) cs) :
    0 ≤ p ∧ p ≤ 11 ∧ behind p ≤ r.length ∧ ∃ cs', cs = [p :: r.take (behind p)] :: cs' ∧ Parse (r.drop (behind p)) cs' := by
  obtain ⟨f, h⟩ := h
  cases f with
  | zero => unfold PyFlat.calls at h; cases h
  | succ f =>
    unfold PyFlat.calls at h
    cases e : PySi24.shape p with
    | none =>
      have c0 : PyFlat.call PySi24.shape (p :: r) = none := by simp only [PyFlat.call, e]
      rw [c0] at h; cases h
    | some x =>
      obtain ⟨h0, h1, rfl⟩ := shape_some e
      by_cases hl : r.length < behind p
      · have c0 : PyFlat.call PySi24.shape (p :: r) = none := by simp only [PyFlat.call, e, if_pos hl]
        rw [c0] at h; cases h
      · have c0 : PyFlat.call PySi24.shape (p :: r) = some ([p :: r.take (behind p)], r.drop (behind p)) := by
          simp only [PyFlat.call, e, if_neg hl, PyFlat.rows]
        rw [c0] at h
        simp only at h
        cases e2 : PyFlat.calls PySi24.shape f (r.drop (behind p)) with
        | none => rw [e2] at h; cases h
        | some cs' =>
          rw [e2] at h
          exact ⟨h0, h1, by omega, cs', (Option.some.inj h).symm, f, e2⟩
theorem parse_whole : ∀ {cs : List (List (List Int))} {l : List Int}, Parse l cs → cs.map PySi24.whole = cs
  | [], _, _ => rfl
  | c :: cs, [], h => by cases parse_nil h
  | c :: cs, p :: r, h => by
    obtain ⟨h0, h1, hl, cs', e, h'⟩ := parse_cons h
    injection e with e1 e2
    subst e1 e2
    rw [List.map_cons, parse_whole h']
    refine congrArg (fun z => z :: _) ?_
    exact by_call (M := fun l => PySi24.whole [l] = [l]) h0 h1 hl rfl rfl (fun _ => rfl) (fun _ _ _ _ _ => rfl) (fun _ _ _ _ _ => rfl) (fun _ _ => rfl) (fun _ _ => rfl) (fun _ _ => rfl) (fun _ => rfl) (fun _ _ => rfl) (fun _ => rfl) (fun _ => rfl)
theorem parse_of {l : List Int} {cs : List (List (List Int))} (h : PySi24.calls l = some cs) : Parse l cs := by
  unfold PySi24.calls at h
  cases e : PyFlat.calls PySi24.shape l.length l with
  | none => rw [e] at h; cases h
  | some ds =>
    rw [e] at h
    have h' := Option.some.inj h
    rw [parse_whole ⟨_, e⟩] at h'
    exact ⟨_, h' ▸ e⟩
theorem told_cons (a : List Int) (l : List (List Int)) : PyFlat.told (a :: l) = ((a.length : Int) :: a) ++ PyFlat.told l := by
  unfold PyFlat.told; rfl
theorem asked_of {l : List Int} (h : PySi24.answers_asked l = true) : ∃ cs, PySi24.calls l = some cs ∧ cs.length ≤ 300 ∧ (∀ c ∈ cs, Si24Neutral.asked1 c = true) ∧ cs ≠ [] := by
  unfold PySi24.answers_asked at h
  cases e : PySi24.calls l with
  | none => rw [e] at h; cases h
  | some cs =>
    rw [e] at h
    have h' : (PyFlat.atMost 300 cs && (cs.all Si24Neutral.asked1 && !cs.isEmpty)) = true := h
    rw [Bool.and_eq_true, Bool.and_eq_true] at h'
    refine ⟨cs, rfl, of_decide_eq_true h'.1, fun c hc => List.all_eq_true.mp h'.2.1 c hc, fun z => ?_⟩
    rw [z] at h'
    exact absurd h'.2.2 (by decide)
theorem answers_eq {l : List Int} {cs : List (List (List Int))} (h : PySi24.calls l = some cs) : PySi24.answers l = PyFlat.told (PyFlat.played Si24Neutral.step Si24Neutral.start cs) := by
  unfold PySi24.answers; rw [h]
end Rs
namespace L2
open PySem PySem.Spec PyProof.Rows

section
variable {X : Cx}
/-- a whole number of the file's top -/
theorem pgi {x : Str} {n : Int} {pos : Pos} (h : ∃ t, X.mg x = some (.int n t)) (hg : Gl X x := by rfl) (hd : (x == ("__debug__" : Str)) = false := by decide) : PE X (.Name x pos) (tC (.int n)) :=
  let ⟨t, e⟩ := h; pe_glob hg e ⟨t, rfl⟩ hd
end
/-- what a turn of a comprehension is to reach -/
abbrev LcNx (D : Addr) (Pv : Nat → List V → Hp → Prop) (i : Nat) (H' : Hp) : Prop := ∃ acc', H' D = some (.lst acc') ∧ acc'.length ≤ i + 1 ∧ Pv (i + 1) acc' H'
/-- a comprehension over a list that stays -/
theorem lcl_list {K : PySem.W.Frag} {a : Addr} {xs : List V} {g : TG} {tt : TT} {te : TE} {vs : List Nat} {σ : St} {H1 : Hp} {D : Addr} {Qd : Hp → Prop}
    (Pv : Nat → List V → Hp → Prop) (h0 : Pv 0 [] (upd H1 D (.lst [])))
    (hl : ∀ i acc H, i ≤ xs.length → H D = some (.lst acc) → Pv i acc H → SqL K H a xs)
    (hs : ∀ i x acc H, xs[i]? = some x → H D = some (.lst acc) → acc.length ≤ i → Pv i acc H → g x (wipe σ vs) H fun σ2 H2 => wipe σ2 vs = wipe σ vs ∧ tt σ2 H2 fun b H3 =>
      if b = true then te σ2 H3 fun y H4 => ∃ acc, H4 D = some (.lst acc) ∧ acc.length < sizeLine ∧ LcNx D Pv i (upd H4 D (.lst (acc ++ [y]))) else LcNx D Pv i H3)
    (hd : ∀ acc H, H D = some (.lst acc) → Pv xs.length acc H → Qd H) :
    ∃ W : Nat → Nat → Hp → Prop, (∃ m, W 0 m (upd H1 D (.lst []))) ∧ ∀ i m H, W i m H →
  ((Itl K a).stop i H ∧ Qd H) ∨ ((Itl K a).go i H ∧ ∃ Nx : Hp → Prop, (∀ H', Nx H' → ∃ m', m' < m ∧ W (i + 1) m' H') ∧ ∀ x H', (Itl K a).yld i H x H' → g x (wipe σ vs) H' fun σ2 H2 => wipe σ2 vs = wipe σ vs ∧ tt σ2 H2 fun b H3 =>
    if b = true then te σ2 H3 fun y H4 => ∃ acc, H4 D = some (.lst acc) ∧ acc.length < sizeLine ∧ Nx (upd H4 D (.lst (acc ++ [y]))) else Nx H3) := by
  refine ⟨fun i m H => m = xs.length - i ∧ i ≤ xs.length ∧ ∃ acc, H D = some (.lst acc) ∧ acc.length ≤ i ∧ Pv i acc H, ⟨xs.length, by simp, Nat.zero_le _, [], upd_same, Nat.le_refl _, h0⟩, ?_⟩
  rintro i m H ⟨rfl, hi, acc, hD, hac, p⟩
  have q := hl i acc H hi hD p
  by_cases hlt : i < xs.length
  · refine .inr ⟨⟨xs, xs[i], q, by simp [hlt]⟩, LcNx D Pv i, fun H' ⟨acc', e1, e2, p'⟩ => ⟨xs.length - (i + 1), by omega, rfl, hlt, acc', e1, e2, p'⟩, fun x H' y => ?_⟩
    obtain ⟨e, y⟩ := y
    subst e
    exact hs i x acc _ (y xs q) hD hac p
  · have e : i = xs.length := by omega
    subst e
    exact .inl ⟨⟨xs, q, Nat.le_refl _⟩, hd acc H hD p⟩
/-- .. over a dict's keys, the dict locked -/
theorem lcl_keys {d : Addr} {o : Obj} {kvs : List (Key × V)} {g : TG} {tt : TT} {te : TE} {vs : List Nat} {σ : St} {H1 : Hp} {D : Addr} {Qd : Hp → Prop}
    (Pv : Nat → List V → Hp → Prop) (h0 : Pv 0 [] (upd H1 D (.lst [])))
    (hl : ∀ i acc H, i ≤ kvs.length → H D = some (.lst acc) → Pv i acc H → H d = some (.frz o (.dK kvs)))
    (hs : ∀ i k v acc H, kvs[i]? = some (k, v) → H D = some (.lst acc) → acc.length ≤ i → Pv i acc H → g (kV k) (wipe σ vs) H fun σ2 H2 => wipe σ2 vs = wipe σ vs ∧ tt σ2 H2 fun b H3 =>
      if b = true then te σ2 H3 fun y H4 => ∃ acc, H4 D = some (.lst acc) ∧ acc.length < sizeLine ∧ LcNx D Pv i (upd H4 D (.lst (acc ++ [y]))) else LcNx D Pv i H3)
    (hd : ∀ acc H, H D = some (.lst acc) → Pv kvs.length acc H → Qd H) :
    ∃ W : Nat → Nat → Hp → Prop, (∃ m, W 0 m (upd H1 D (.lst []))) ∧ ∀ i m H, W i m H →
  ((Itk d o kvs).stop i H ∧ Qd H) ∨ ((Itk d o kvs).go i H ∧ ∃ Nx : Hp → Prop, (∀ H', Nx H' → ∃ m', m' < m ∧ W (i + 1) m' H') ∧ ∀ x H', (Itk d o kvs).yld i H x H' → g x (wipe σ vs) H' fun σ2 H2 => wipe σ2 vs = wipe σ vs ∧ tt σ2 H2 fun b H3 =>
    if b = true then te σ2 H3 fun y H4 => ∃ acc, H4 D = some (.lst acc) ∧ acc.length < sizeLine ∧ Nx (upd H4 D (.lst (acc ++ [y]))) else Nx H3) := by
  refine ⟨fun i m H => m = kvs.length - i ∧ i ≤ kvs.length ∧ ∃ acc, H D = some (.lst acc) ∧ acc.length ≤ i ∧ Pv i acc H, ⟨kvs.length, by simp, Nat.zero_le _, [], upd_same, Nat.le_refl _, h0⟩, ?_⟩
  rintro i m H ⟨rfl, hi, acc, hD, hac, p⟩
  have q := hl i acc H hi hD p
  by_cases hlt : i < kvs.length
  · refine .inr ⟨⟨q, hlt⟩, LcNx D Pv i, fun H' ⟨acc', e1, e2, p'⟩ => ⟨kvs.length - (i + 1), by omega, rfl, hlt, acc', e1, e2, p'⟩, fun x H' y => ?_⟩
    obtain ⟨e, k, v, ek, ex⟩ := y
    subst e ex
    exact hs i k v acc _ ek hD hac p
  · have e : i = kvs.length := by omega
    subst e
    exact .inl ⟨⟨q, Nat.le_refl _⟩, hd acc H hD p⟩
theorem putF_len (f : Str) (v : V) : ∀ fs : List (Str × V), (putF f v fs).length ≤ fs.length + 1
  | [] => Nat.le_refl _
  | (g, x) :: r => by
    show (if g = f then (g, v) :: r else (g, x) :: putF f v r).length ≤ _
    split
    · exact Nat.le_succ _
    · exact Nat.succ_le_succ (putF_len f v r)
/-- the scope of a comprehension -/
abbrev lcs (names : List (Str × NameKind)) : Scope := { kind := .function, names := names, isGenerator := false, isCoroutine := false, more := [] }
end L2

namespace Rs
open PySem L2

/-! ### what lies in a member, in a house -/
def modeV : Si24.Mode → Int
  | .level => 0
  | .edge => 1
  | .once => 2
def mfR (s b m d r : Int) (z : Bool) : List (Str × V) := putF "sleeps" (.bl z) (putF "risen" (.int r) (putF "data" (.int d) (putF "mode" (.int m) (putF "bits" (.int b) (putF "source" (.int s) [])))))
def mf (m : Si24.Member) : List (Str × V) := mfR m.src m.bits (modeV m.mode) m.data m.risen m.sleeps
section
variable {s b m d r : Int} {z : Bool}
theorem mfR_source : (mfR s b m d r z).lookup ("source" : Str) = some (.int s) := by
  unfold mfR
  rw [lookup_putF, if_neg (by decide +kernel), lookup_putF, if_neg (by decide +kernel), lookup_putF, if_neg (by decide +kernel), lookup_putF, if_neg (by decide +kernel), lookup_putF, if_neg (by decide +kernel), lookup_putF, if_pos rfl]
theorem mfR_bits : (mfR s b m d r z).lookup ("bits" : Str) = some (.int b) := by
  unfold mfR
  rw [lookup_putF, if_neg (by decide +kernel), lookup_putF, if_neg (by decide +kernel), lookup_putF, if_neg (by decide +kernel), lookup_putF, if_neg (by decide +kernel), lookup_putF, if_pos rfl]
theorem mfR_mode : (mfR s b m d r z).lookup ("mode" : Str) = some (.int m) := by
  unfold mfR
  rw [lookup_putF, if_neg (by decide +kernel), lookup_putF, if_neg (by decide +kernel), lookup_putF, if_neg (by decide +kernel), lookup_putF, if_pos rfl]
theorem mfR_data : (mfR s b m d r z).lookup ("data" : Str) = some (.int d) := by
  unfold mfR
  rw [lookup_putF, if_neg (by decide +kernel), lookup_putF, if_neg (by decide +kernel), lookup_putF, if_pos rfl]
theorem mfR_risen : (mfR s b m d r z).lookup ("risen" : Str) = some (.int r) := by
  unfold mfR
  rw [lookup_putF, if_neg (by decide +kernel), lookup_putF, if_pos rfl]
theorem mfR_sleeps : (mfR s b m d r z).lookup ("sleeps" : Str) = some (.bl z) := by
  unfold mfR
  rw [lookup_putF, if_pos rfl]
theorem mfR_eq : mfR s b m d r z = ([("source", V.int s), ("bits", V.int b), ("mode", V.int m), ("data", V.int d), ("risen", V.int r), ("sleeps", V.bl z)] : List (Str × V)) := by
  have n1 : (("source" : Str) = "bits") = False := eq_false (by decide +kernel)
  have n2 : (("source" : Str) = "mode") = False := eq_false (by decide +kernel)
  have n3 : (("source" : Str) = "data") = False := eq_false (by decide +kernel)
  have n4 : (("source" : Str) = "risen") = False := eq_false (by decide +kernel)
  have n5 : (("source" : Str) = "sleeps") = False := eq_false (by decide +kernel)
  have n6 : (("bits" : Str) = "mode") = False := eq_false (by decide +kernel)
  have n7 : (("bits" : Str) = "data") = False := eq_false (by decide +kernel)
  have n8 : (("bits" : Str) = "risen") = False := eq_false (by decide +kernel)
  have n9 : (("bits" : Str) = "sleeps") = False := eq_false (by decide +kernel)
  have n10 : (("mode" : Str) = "data") = False := eq_false (by decide +kernel)
  have n11 : (("mode" : Str) = "risen") = False := eq_false (by decide +kernel)
  have n12 : (("mode" : Str) = "sleeps") = False := eq_false (by decide +kernel)
  have n13 : (("data" : Str) = "risen") = False := eq_false (by decide +kernel)
  have n14 : (("data" : Str) = "sleeps") = False := eq_false (by decide +kernel)
  have n15 : (("risen" : Str) = "sleeps") = False := eq_false (by decide +kernel)
  simp only [mfR, putF, n1, n2, n3, n4, n5, n6, n7, n8, n9, n10, n11, n12, n13, n14, n15, if_false]
theorem mfR_len : (mfR s b m d r z).length = 6 := by rw [mfR_eq]; rfl
theorem mfR_putRisen (y : Int) : putF "risen" (.int y) (mfR s b m d r z) = mfR s b m d y z := by
  rw [mfR_eq, mfR_eq]
  simp only [putF, eq_false (show ¬ ("source" : Str) = "risen" by decide +kernel), eq_false (show ¬ ("bits" : Str) = "risen" by decide +kernel), eq_false (show ¬ ("mode" : Str) = "risen" by decide +kernel),
    eq_false (show ¬ ("data" : Str) = "risen" by decide +kernel), if_false, if_true]
theorem mfR_putSleeps (y : Bool) : putF "sleeps" (.bl y) (mfR s b m d r z) = mfR s b m d r y := by
  rw [mfR_eq, mfR_eq]
  simp only [putF, eq_false (show ¬ ("source" : Str) = "sleeps" by decide +kernel), eq_false (show ¬ ("bits" : Str) = "sleeps" by decide +kernel), eq_false (show ¬ ("mode" : Str) = "sleeps" by decide +kernel),
    eq_false (show ¬ ("data" : Str) = "sleeps" by decide +kernel), eq_false (show ¬ ("risen" : Str) = "sleeps" by decide +kernel), if_false, if_true]
end
def hf (lv sd : Addr) : List (Str × V) := putF "sets" (.ref sd) (putF "levels" (.ref lv) [])
theorem n_ls : ¬ (("levels" : Str) = "sets") := by decide +kernel
theorem hf_levels (lv sd : Addr) : (hf lv sd).lookup ("levels" : Str) = some (.ref lv) := by
  unfold hf
  rw [lookup_putF, if_neg n_ls, lookup_putF, if_pos rfl]
theorem hf_sets (lv sd : Addr) : (hf lv sd).lookup ("sets" : Str) = some (.ref sd) := by
  unfold hf
  rw [lookup_putF, if_pos rfl]
theorem hf_no (lv sd : Addr) {m : Str} (h1 : ¬ m = "sets") (h2 : ¬ m = "levels") : (hf lv sd).lookup m = none := by
  unfold hf
  rw [lookup_putF, if_neg h1, lookup_putF, if_neg h2]
  all_goals rfl
theorem hf_eq (lv sd : Addr) : hf lv sd = ([("levels", V.ref lv), ("sets", V.ref sd)] : List (Str × V)) := by
  simp only [hf, putF, eq_false n_ls, if_false]
theorem hf_putL (lv sd l : Addr) : putF "levels" (.ref l) (hf lv sd) = hf l sd := by
  rw [hf_eq, hf_eq]
  simp only [putF, if_true]
theorem hf_putS (lv sd d : Addr) : putF "sets" (.ref d) (hf lv sd) = hf lv d := by
  rw [hf_eq, hf_eq]
  simp only [putF, eq_false n_ls, if_false, if_true]

/-! ### the dict of the sets, the dict of the ready ones -/
def kvsOf (L : List Ent) : List (Key × V) := L.map fun e => ((Sum.inl (e.k : Int) : Key), V.ref e.l)
theorem valV_lay (L : List Ent) (k : Nat) : valV (kvsOf L) (Sum.inl (k : Int)) = (lay L k).map fun e => V.ref e.l := by
  induction L with
  | nil => rfl
  | cons e L ih =>
    show valV (((Sum.inl (e.k : Int) : Key), V.ref e.l) :: kvsOf L) _ = _
    rw [lay_cons]
    by_cases h : e.k = k
    · rw [valV_pos (by rw [h]), if_pos h]; rfl
    · rw [valV_neg (fun z => h (by have := Sum.inl.inj z; exact Int.ofNat.inj this)), if_neg h, ih]
theorem valV_neg_int (L : List Ent) {z : Int} (h : z < 0) : valV (kvsOf L) (Sum.inl z) = none := by
  induction L with
  | nil => rfl
  | cons e L ih =>
    show valV (((Sum.inl (e.k : Int) : Key), V.ref e.l) :: kvsOf L) _ = _
    rw [valV_neg (fun q => by have := Sum.inl.inj q; omega), ih]
theorem valV_at {L : List Ent} (G : Good L) {e : Ent} (h : e ∈ L) : valV (kvsOf L) (Sum.inl (e.k : Int)) = some (V.ref e.l) := by
  rw [valV_lay, lay_mem G.nd h]; rfl
theorem valV_has {L : List Ent} (z : Int) : (valV (kvsOf L) (Sum.inl z)).isSome = true ↔ ∃ e ∈ L, z = (e.k : Int) := by
  by_cases h : z < 0
  · rw [valV_neg_int L h]
    exact ⟨fun q => (by cases q), fun ⟨e, _, q⟩ => (by omega)⟩
  · obtain ⟨k, rfl⟩ : ∃ k : Nat, z = (k : Int) := ⟨z.toNat, by omega⟩
    rw [valV_lay]
    cases c : lay L k with
    | none => exact ⟨fun q => (by cases q), fun ⟨e, he, q⟩ => absurd (by omega) (lay_none.mp c e he)⟩
    | some e => exact ⟨fun _ => ⟨e, (lay_some c).1, by rw [(lay_some c).2]⟩, fun _ => rfl⟩
theorem putK_at {L : List Ent} {e : Ent} (h : e ∈ L) (l : Nat) (ms : List (Nat × Si24.Member)) : putK (kvsOf L) (Sum.inl (e.k : Int)) (V.ref l) = kvsOf (putE L e.k l ms) := by
  unfold putK
  rw [if_pos]
  · unfold kvsOf putE
    rw [List.map_map, List.map_map]
    refine List.map_congr_left fun x _ => ?_
    show (if (Sum.inl (x.k : Int) : Key) = Sum.inl (e.k : Int) then _ else _) = ((Sum.inl ((if x.k = e.k then (⟨x.k, l, ms⟩ : Ent) else x).k : Int) : Key), V.ref (if x.k = e.k then (⟨x.k, l, ms⟩ : Ent) else x).l)
    by_cases q : x.k = e.k
    · rw [if_pos (by rw [q]), if_pos q]
    · rw [if_neg (fun z => q (by have := Sum.inl.inj z; exact Int.ofNat.inj this)), if_neg q]
  · rw [List.any_eq_true]
    exact ⟨(Sum.inl (e.k : Int), V.ref e.l), List.mem_map.mpr ⟨e, h, rfl⟩, decide_eq_true rfl⟩
theorem putK_new {L : List Ent} {k : Nat} (h : lay L k = none) (l : Nat) : putK (kvsOf L) (Sum.inl (k : Int)) (V.ref l) = kvsOf (L ++ [⟨k, l, []⟩]) := by
  unfold putK
  rw [if_neg]
  · unfold kvsOf
    rw [List.map_append]; rfl
  · rw [List.any_eq_true]
    rintro ⟨p, hp, q⟩
    obtain ⟨e, he, rfl⟩ := List.mem_map.mp hp
    have q' := Sum.inl.inj (of_decide_eq_true q)
    exact lay_none.mp h e he (Int.ofNat.inj q')
theorem dropK_at (L : List Ent) (k : Nat) : dropK (kvsOf L) (Sum.inl (k : Int)) = kvsOf (L.filter fun e => decide (e.k ≠ k)) := by
  unfold dropK kvsOf
  rw [List.filter_map]
  congr 1
  refine List.filter_congr fun e _ => ?_
  show decide ((Sum.inl (e.k : Int) : Key) ≠ Sum.inl (k : Int)) = decide (e.k ≠ k)
  by_cases q : e.k = k
  · rw [q]; simp
  · rw [decide_eq_true (show (Sum.inl (e.k : Int) : Key) ≠ Sum.inl (k : Int) from fun z => q (Int.ofNat.inj (Sum.inl.inj z))), decide_eq_true q]
/-- the numbers in R as a dict's keys -/
def rkv (R : List Nat) : List (Key × V) := R.map fun k : Nat => ((Sum.inl (k : Int) : Key), V.bl true)
theorem valV_rkv (R : List Nat) (k : Nat) : (valV (rkv R) (Sum.inl (k : Int))).isSome = decide (k ∈ R) := by
  induction R with
  | nil => rfl
  | cons x R ih =>
    show (valV (((Sum.inl (x : Int) : Key), V.bl true) :: rkv R) _).isSome = _
    by_cases h : x = k
    · rw [valV_pos (by rw [h])]; simp [h]
    · rw [valV_neg (fun z => h (Int.ofNat.inj (Sum.inl.inj z))), ih]
      simp [Ne.symm (show x ≠ k from h)]
theorem putK_rkv {R : List Nat} {k : Nat} (h : k ∉ R) : putK (rkv R) (Sum.inl (k : Int)) (V.bl true) = rkv (R ++ [k]) := by
  unfold putK
  rw [if_neg]
  · unfold rkv
    rw [List.map_append]; rfl
  · rw [List.any_eq_true]
    rintro ⟨p, hp, q⟩
    obtain ⟨e, he, rfl⟩ := List.mem_map.mp hp
    have q' := Sum.inl.inj (of_decide_eq_true q)
    exact h (Int.ofNat.inj q' ▸ he)

/-! ### a house as it lies -/
structure HRd (C D : Addr) (H : Hp) (h : Ho) (so : HO) : Prop where
  ob : ∃ dx, H h.p = some (.ins D dx (hf h.lv h.sd))
  lvl : H h.lv = some (.lst (h.lvs.map fun n : Nat => V.int n))
  sds : H h.sd = some so
  is : so = .dK (kvsOf h.L) ∨ ∃ o, so = .frz o (.dK (kvsOf h.L))
  lst : ∀ e ∈ h.L, H e.l = some (.lst (e.ms.map fun x => V.ref x.1))
  mem : ∀ e ∈ h.L, ∀ x ∈ e.ms, ∃ dx, H x.1 = some (.ins C dx (mf x.2))
abbrev HAt (C D : Addr) (H : Hp) (h : Ho) : Prop := HRd C D H h (.dK (kvsOf h.L))
theorem HRd.same {C D : Addr} {H H' : Hp} {h : Ho} {so : HO} (r : HRd C D H h so) (s : Same H H') : HRd C D H' h so where
  ob := let ⟨dx, e⟩ := r.ob; ⟨dx, s _ _ e⟩
  lvl := s _ _ r.lvl
  sds := s _ _ r.sds
  is := r.is
  lst := fun e he => s _ _ (r.lst e he)
  mem := fun e he x hx => let ⟨dx, q⟩ := r.mem e he x hx; ⟨dx, s _ _ q⟩
theorem HRd.rd {C D : Addr} {H : Hp} {h : Ho} {so : HO} (r : HRd C D H h so) : Rd H h.sd (.dK (kvsOf h.L)) := by
  rcases r.is with e | ⟨o, e⟩
  · exact .inl (e ▸ r.sds)
  · exact .inr ⟨o, e ▸ r.sds⟩
theorem HRd.get {C D : Addr} {H : Hp} {h : Ho} {so : HO} (r : HRd C D H h so) (z : Int) : DGet H h.sd (.int z) (valV (kvsOf h.L) (Sum.inl z)) := .inl ⟨_, Sum.inl z, r.rd, rfl, rfl⟩
theorem HRd.get_at {C D : Addr} {H : Hp} {h : Ho} {so : HO} (r : HRd C D H h so) (g : HG0 h) {e : Ent} (he : e ∈ h.L) : DGet H h.sd (.int e.k) (some (V.ref e.l)) := by
  have := r.get (e.k : Int)
  rw [valV_at g.good he] at this
  exact this
/-- the dict locked -/
theorem HRd.lock {C D : Addr} {H : Hp} {h : Ho} (r : HAt C D H h) (o : Obj) : HRd C D (upd H h.sd (.frz o (.dK (kvsOf h.L)))) h (.frz o (.dK (kvsOf h.L))) where
  ob := let ⟨dx, e⟩ := r.ob; ⟨dx, by rw [upd_ne (ne_of e r.sds (by intro z; cases z))]; exact e⟩
  lvl := by rw [upd_ne (ne_of r.lvl r.sds (by intro z; cases z))]; exact r.lvl
  sds := upd_same
  is := .inr ⟨o, rfl⟩
  lst := fun e he => by rw [upd_ne (ne_of (r.lst e he) r.sds (by intro z; cases z))]; exact r.lst e he
  mem := fun e he x hx => let ⟨dx, q⟩ := r.mem e he x hx; ⟨dx, by rw [upd_ne (ne_of q r.sds (by intro z; cases z))]; exact q⟩
theorem HRd.put {C D : Addr} {H H' : Hp} {h : Ho} {so : HO} {e : Ent} {l : Addr} {ms : List (Addr × Si24.Member)} (R : HRd C D H h so) (kp : ∀ b o, H b = some o → b ≠ h.sd → H' b = some o)
    (dn : ∀ b, b = h.p ∨ b = h.lv ∨ (∃ x ∈ h.L, b = x.l) ∨ (∃ x ∈ h.L, ∃ y ∈ x.ms, b = y.1) → b ≠ h.sd)
    (hl : H' l = some (.lst (ms.map fun x => V.ref x.1))) (hs : H' h.sd = some (.dK (kvsOf (putE h.L e.k l ms)))) (hm : ∀ x ∈ ms, ∃ dx, H' x.1 = some (.ins C dx (mf x.2))) :
    HAt C D H' { h with L := putE h.L e.k l ms } where
  ob := let ⟨dx, q⟩ := R.ob; ⟨dx, kp _ _ q (dn _ (.inl rfl))⟩
  lvl := kp _ _ R.lvl (dn _ (.inr (.inl rfl)))
  sds := hs
  is := .inl rfl
  lst := fun x hx => by
    obtain ⟨y, hy, hk, q | q⟩ := mem_putE hx
    · rw [q.2.1, q.2.2]; exact hl
    · rw [q.2]; exact kp _ _ (R.lst y hy) (dn _ (.inr (.inr (.inl ⟨y, hy, rfl⟩))))
  mem := fun x hx z hz => by
    obtain ⟨y, hy, hk, q | q⟩ := mem_putE hx
    · rw [q.2.2] at hz; exact hm z hz
    · rw [q.2] at hz
      obtain ⟨dx, c⟩ := R.mem y hy z hz
      exact ⟨dx, kp _ _ c (dn _ (.inr (.inr (.inr ⟨y, hy, z, hz, rfl⟩))))⟩
/-- the dict of the sets stands apart -/
theorem HRd.apart {C D : Addr} {H : Hp} {h : Ho} {so : HO} (R : HRd C D H h so) : ∀ b, b = h.p ∨ b = h.lv ∨ (∃ x ∈ h.L, b = x.l) ∨ (∃ x ∈ h.L, ∃ y ∈ x.ms, b = y.1) → b ≠ h.sd := by
  intro b hb
  have n1 : ∀ o, H b = some o → (∀ kvs, o ≠ .dK kvs) → (∀ ob u, o ≠ .frz ob u) → b ≠ h.sd := fun o e d1 d2 => by
    refine ne_of e R.sds ?_
    rcases R.is with q | ⟨ob, q⟩
    · rw [q]; exact d1 _
    · rw [q]; exact d2 _ _
  rcases hb with rfl | rfl | ⟨x, hx, rfl⟩ | ⟨x, hx, y, hy, rfl⟩
  · obtain ⟨dx, e⟩ := R.ob
    exact n1 _ e (fun _ z => by cases z) (fun _ _ z => by cases z)
  · exact n1 _ R.lvl (fun _ z => by cases z) (fun _ _ z => by cases z)
  · exact n1 _ (R.lst x hx) (fun _ z => by cases z) (fun _ _ z => by cases z)
  · obtain ⟨dx, e⟩ := R.mem x hx y hy
    exact n1 _ e (fun _ z => by cases z) (fun _ _ z => by cases z)
theorem same_new {H : Hp} {a : Addr} {o : HO} (h : H a = none) : Same H (upd H a o) := fun b u e => by rw [upd_ne (ne_of_none e h)]; exact e
end Rs
namespace L2
open PySem PySem.Spec PyProof.Rows
theorem vals_of_get : ∀ {xs : List V} {us : List Value}, xs.length = us.length → (∀ (i : Nat) (x : V) (u : Value), xs[i]? = some x → us[i]? = some u → RelV x u) → Vals xs us
  | [], [], _, _ => .nil
  | x :: xs, u :: us, hl, h => .cons (h 0 x u rfl rfl) (vals_of_get (by simpa using hl) fun i y v e1 e2 => h (i + 1) y v (by simpa using e1) (by simpa using e2))
  | [], _ :: _, hl, _ => by simp at hl
  | _ :: _, [], hl, _ => by simp at hl
theorem kv_at {κ : Type} : ∀ {kvs : List (κ × V)} {vs : List (κ × Value)}, KV kvs vs → ∀ (i : Nat) (p : κ × V) (q : κ × Value), kvs[i]? = some p → vs[i]? = some q → p.1 = q.1 ∧ RelV p.2 q.2
  | _, _, .nil, i, p, q, e, _ => by simp at e
  | _, _, .cons r t, 0, p, q, e1, e2 => by
    simp at e1 e2
    subst e1 e2
    exact r
  | _, _, .cons r t, i + 1, p, q, e1, e2 => kv_at t i p q (by simpa using e1) (by simpa using e2)
/-- the keys that were walked, as values -/
theorem vals_keys {P : Program} {w : World} {kvs : List (Key × V)} {vs : List (Key × Value)} {acc : List Value} (rel : KV kvs vs) (hl : acc.length = vs.length)
    (h : ∀ (j : Nat) (v : Value), acc[j]? = some v → ∃ k x, vs[j]? = some (k, x) ∧ (mixKind P w).is k v = true) : Vals (kvs.map fun p => kV p.1) acc := by
  refine vals_of_get (by rw [List.length_map, hl]; exact rel.length) fun i x u e1 e2 => ?_
  obtain ⟨k, y, e3, hk⟩ := h i u e2
  rw [List.getElem?_map] at e1
  cases c : kvs[i]? with
  | none => rw [c] at e1; cases e1
  | some p =>
    rw [c] at e1
    have e1' : kV p.1 = x := Option.some.inj e1
    obtain ⟨q1, _⟩ := kv_at rel i p (k, y) c e3
    have q1' : p.1 = k := q1
    rw [← e1', q1']
    exact relV_key hk
section
variable {X : Cx}
/-- list(d): its keys -/
theorem call_listD (hc : X.calm = true) : CallR X (.type "list") (fun xs H Q => ∃ (d : Addr) (kvs : List (Key × V)), xs = [.ref d] ∧ Rd H d (.dK kvs) ∧ ∀ l, H l = none → Q (.ref l) (upd H l (.lst (kvs.map fun p => kV p.1)))) := by
  intro pins s σ H xs us Q I r h
  obtain ⟨d, kvs, rfl, hd, q⟩ := h
  obtain ⟨u, rfl, rx⟩ := vals1 r
  cases rx
  obtain ⟨hz, hS, vs, rel, dd⟩ := dk_rd I.hok hd
  obtain ⟨ep, hat⟩ := dd.dictAt
  have hlen : kvs.length = vs.length := rel.length
  refine PySem.W.kdl_call (PySem.W.kdl_dict (knd := mixKind X.prog X.w) (kvs := vs) (ep := ep) hS) (I.ok.hd hc) hat (by omega) fun h' tk acc' c' hk hD hacc => ?_
  have rv : Vals (kvs.map fun p => kV p.1) acc'.toList := vals_keys (P := X.prog) (w := X.w) rel (by rw [Array.length_toList]; exact hacc.1) fun j v e => hacc.2 j v (by rw [← Array.getElem?_toList]; exact e)
  have new : ObjOk X.prog X.w (upd H s.heap.objs.size (.lst (kvs.map fun p => kV p.1))) h' s.heap.objs.size (.lst (kvs.map fun p => kV p.1)) := ⟨by rw [List.length_map]; exact hz, acc'.toList, c', rv, by simpa using hD⟩
  exact ⟨.ref s.heap.objs.size, _, I.laid (t' := tk) hk (Nat.le_refl _) new, rfl, q _ (I.hok.fresh (Nat.le_refl _))⟩
end

section
variable {prog : Program} {w : World} {A : Around} {E : Value → Shared → Prop} {s : Shared} {T : String} {r d : Addr} {n : Nat} {P : Nat → Value → Prop} {OK : Heap → Prop}
theorem collect_src {Q : List Value → Shared → Prop} (K : PySem.W.KdlSrc prog w T r d n P OK) (hh : A.handled = none) (hok : OK s.heap) (hn : n ≤ sizeLine)
    (h : ∀ (h' : Heap) (tk : Nat) (vs : List Value), (∀ b o, s.heap.get? b = some o → h'.get? b = some o) → s.heap.objs.size < h'.objs.size → vs.length = n → (∀ j v, vs[j]? = some v → P j v) → Q vs { s with heap := h', toks := tk }) :
    wpAny (model prog w) A (collect (.ref r)) Q E s := by
  unfold collect
  refine wpAny_bind (wpAny_runValue (codeAny_builtin entry_proto_collect' ?_))
  show wpAny _ _ (do again (.builtin "list.__iadd__" ⟨[← newList [], .ref r], []⟩)) _ _ s
  have hlt := K.there _ hok
  have hS : (s.heap.push (seqObj "list" #[] 0)).get? s.heap.objs.size = some { cls := .type "list", data := .seq #[] 0 } := Heap.get?_push_size _ rfl
  have key : codeAny (model prog w) A (.builtin "list.__iadd__" ⟨[.ref s.heap.objs.size, .ref r], []⟩) (fun q s' => q = .ok (.ret (.ref s.heap.objs.size)) ∧ ∃ h' tk acc' c', s' = { s with heap := h', toks := tk } ∧ (∀ b o, s.heap.get? b = some o → h'.get? b = some o) ∧
      h'.get? s.heap.objs.size = some { cls := .type "list", dict := none, data := .seq acc' c', slots := #[] } ∧ PySem.ItemsOf P acc' n) { s with heap := s.heap.push (seqObj "list" #[] 0) } := by
    refine codeAny_builtin entry_list_iadd' ?_
    show wpAny _ A.in1 (Builtin.List.listExtendWith (.ref s.heap.objs.size) (.ref r) (.ref s.heap.objs.size)) _ _ { s with heap := s.heap.push (seqObj "list" #[] 0) }
    refine PySem.W.kdl_extend (s := { s with heap := s.heap.push (seqObj "list" #[] 0) }) (R := fun q s' => q = .ok (.ret (.ref s.heap.objs.size)) ∧ ∃ h' tk acc' c', s' = { s with heap := h', toks := tk } ∧ (∀ b o, s.heap.get? b = some o → h'.get? b = some o) ∧
      h'.get? s.heap.objs.size = some { cls := .type "list", dict := none, data := .seq acc' c', slots := #[] } ∧ PySem.ItemsOf P acc' n) K hh (K.keep _ _ hok fun b _ o e => Heap.get?_push_of_some _ e) s.heap.objs.size (Nat.ne_of_gt hlt.1) (Nat.ne_of_gt hlt.2) _ 0 hS (fun h' tk acc' c' hk hS' hacc => ?_) hn
    exact ⟨rfl, h', tk, acc', c', rfl, fun b o e => hk b o (Nat.ne_of_lt (Heap.lt_size e)) (Heap.get?_push_of_some _ e), hS', hacc⟩
  refine wpAny_bind (wpAny_newList (wpAny_pure ⟨Code.quiet_builtin _ (by decide +kernel), codeAny_mono key fun q s' hq => ?_⟩))
  obtain ⟨rfl, h', tk, acc', c', rfl, hk, hS', hacc⟩ := hq
  show wpAny (model prog w) A (do
      let o ← load s.heap.objs.size
      match o.data with
      | .seq xs _ => pure xs.toList
      | _ => unsupported "internal:collect") Q E { s with heap := h', toks := tk }
  refine wpAny_bind (wpAny_load hS' ?_)
  exact wpAny_pure (h h' tk acc'.toList hk (Heap.lt_size hS') (by rw [Array.length_toList]; exact hacc.1) fun j v e => hacc.2 j v (by rw [← Array.getElem?_toList]; exact e))
theorem sorted_src {ns : List Int} {Q : Value → Shared → Prop} (K : PySem.W.KdlSrc prog w T r d n P OK) (hh : A.handled = none) (hok : OK s.heap) (h64 : n < 64)
    (hI : ∀ vs : List Value, vs.length = n → (∀ j v, vs[j]? = some v → P j v) → IntsAre vs ns)
    (h : ∀ (h' : Heap) (tk : Nat) (a : Addr) (out : Array Value) (ns' : List Int) (ep : Nat), (∀ b o, s.heap.get? b = some o → h'.get? b = some o) → s.heap.objs.size ≤ a → h'.get? a = some (seqObj "list" out ep) → IntsAre out.toList ns' → ns'.Perm ns → ns'.Pairwise (· ≤ ·) → Q (.ref a) { s with heap := h', toks := tk }) :
    wpAny (model prog w) A (call (.builtin "sorted") [.ref r]) Q E s := by
  refine Calls.call_function_entry kind_sorted plain_sorted entry_sorted (args_sorted1 _) ?_
  unfold Builtin.«sorted»
  refine wpAny_bind (m := checkCount "sorted" 1 1 _) (wpAny_pure ?_)
  refine wpAny_bind (collect_src K hh hok (by rw [sizeLine_eq]; omega) fun h' tk vs hk hsz hl hv => ?_)
  have hi := hI vs hl hv
  refine wpAny_bind (wpAny_newList ?_)
  have hoL : (h'.push (seqObj "list" vs.toArray 0)).get? h'.objs.size = some (seqObj "list" vs.toArray 0) := Heap.get?_push_size _ rfl
  show wpAny _ _ _ _ _ { s with heap := h'.push (seqObj "list" vs.toArray 0), toks := tk }
  have hle : s.heap.objs.size ≤ h'.objs.size := Nat.le_of_lt hsz
  refine wpAny_bind (wpAny_holding (wpAny_call_entry slot_list_sort ⟨_, hoL, rfl⟩ entry_list_sort (list_sort_tree hoL hi (by rw [hl]; exact h64) fun out ns' a1 a2 a3 => ⟨_, rfl, ?_⟩) (args_list_sort _)))
  obtain ⟨ep, he⟩ := sortedHeap_at (out := out) hoL
  refine wpAny_pure ⟨_, rfl, h _ tk h'.objs.size out ns' ep (fun b o e => ?_) hle he a1 a2 a3⟩
  have hb : b < h'.objs.size := Heap.lt_size (hk b o e)
  rw [sortedHeap_old (Nat.ne_of_lt hb) (by rw [size_push']; exact Nat.lt_succ_of_lt hb)]
  exact Heap.get?_push_of_some _ (hk b o e)
end
section
variable {X : Cx}
/-- sorted(d) of a dict of int keys -/
theorem cr_sortedD (hc : X.calm = true) : CallR X (.builtin "sorted") (fun xs H Q => ∃ (d : Addr) (kvs : List (Key × V)) (ns : List Int), xs = [.ref d] ∧ Rd H d (.dK kvs) ∧ kvs.map (·.1) = ns.map Sum.inl ∧ ns.length < 64 ∧
    ∀ (ns' : List Int) (p : Addr), ns'.Perm ns → ns'.Pairwise (· ≤ ·) → H p = none → Q (.ref p) (upd H p (.lst (ns'.map V.int)))) := by
  intro pins s σ H xs us Q I r h
  obtain ⟨d, kvs, ns, rfl, hd, hns, h64, q⟩ := h
  obtain ⟨u, rfl, rx⟩ := vals1 r
  cases rx
  obtain ⟨hz, hS, vs, rel, dd⟩ := dk_rd I.hok hd
  obtain ⟨ep, hat⟩ := dd.dictAt
  have hlen : kvs.length = vs.length := rel.length
  have hln : kvs.length = ns.length := by have := congrArg List.length hns; simpa using this
  refine sorted_src (ns := ns) (PySem.W.kdl_dict (knd := mixKind X.prog X.w) (kvs := vs) (ep := ep) hS) (I.ok.hd hc) hat (by omega) (fun us hl hv => ?_) fun h' tk a out ns' ep hk ha ho h1 h2 h3 => ?_
  · have rv := vals_keys (P := X.prog) (w := X.w) rel hl hv
    have e : (kvs.map fun p => kV p.1) = ns.map V.int := by
      have : (kvs.map (·.1)).map kV = (ns.map (Sum.inl : Int → Key)).map kV := by rw [hns]
      rw [List.map_map, List.map_map] at this
      exact this
    rw [e] at rv
    exact rv.ints
  · have new : ObjOk X.prog X.w (upd H a (.lst (ns'.map V.int))) h' a (.lst (ns'.map V.int)) := ⟨by rw [List.length_map, h2.length_eq]; exact small64 h64, out.toList, ep, vals_of_ints h1, by simpa [seqObj] using ho⟩
    exact ⟨.ref a, _, I.laid (t' := tk) hk ha new, rfl, q ns' a h2 h3 (I.hok.fresh ha)⟩
end
/-! ### a dict of the file's top -/
def KDict (P : Program) (w : World) (K : PySem.W.Frag) (d : Addr) (vs : List (Key × Value)) : Prop := ∃ o, K.lookup d = some o ∧ o.IsDictOf (mixKind P w) vs
def tKGet (P : Program) (w : World) (K : PySem.W.Frag) (td ty : TE) : TE := fun σ H Q => td σ H fun x H1 => ty σ H1 fun y H2 => ∃ d vs k u v, x = .ref d ∧ KDict P w K d vs ∧ y = kV k ∧ valueAt vs k = some u ∧ RelV v u ∧ Q v H2
section
variable {X : Cx} {o i : Expr} {pos : Pos} {td ty : TE}
theorem pe_kget (ho : PE X o td) (hi : PE X i ty) (hs : NoSl i) : PE X (.Subscript o i pos) (tKGet X.prog X.w X.K td ty) := by
  intro pins s σ H Q I h
  refine subD_of PySem.F.slot_dict_getitem.lookup hs (thn (ho pins s σ H _ I h) fun u s1 ⟨x, H1, I1, rx, q1⟩ => thn (hi pins s1 σ H1 _ I1 q1) fun iv s2 ⟨y, H2, I2, ry, a, vs, k, uv, v, ex, ⟨ob, lk, isd⟩, ey, hv, rv, q2⟩ => ?_)
  subst ex ey
  obtain rfl : u = Value.ref a := rx
  have dd : s2.heap.DictOf (mixKind X.prog X.w) a vs := Heap.dictOf_iff.mpr ⟨ob, I2.kIn a ob lk, isd⟩
  exact ⟨dd.typeIs, wpAny_getItem_of (kV_is ry) dd.mapOf hv ⟨v, H2, I2.tok _, rv, q2⟩⟩
end
end L2
namespace Att
open PySem PySem.W PySem.Calls PyProof.Rows
abbrev rwS : OpenSpec := PySem.Challenge.rw_readysets_s01_answers
theorem readsAll_ints {R : WRecords} {cl : Str → Option Addr} {h : Heap} : ∀ {vs : List Value} {ns : List Int}, IntsAre vs ns → ReadsAllW R cl h vs (ns.map WData.int) []
  | _, _, .nil => .nil
  | _, _, .cons n t r => ReadsAllW.cons (as := []) (bs := []) (.int n t) (readsAll_ints r)
theorem pre_ints {args : List WData} (hpre : rwS.pre args = true) :
    ∃ ns : List Int, args = [.list (ns.map WData.int)] ∧ ns.length ≤ 16000 ∧ (∀ x ∈ ns, -2147483648 ≤ x ∧ x ≤ 18446744073709551615) ∧ PySi24.answers_asked ns = true ∧ Codec.decAll rwS.args args = some (ns, ()) := by
  have hsh : WShape.hasAll [] args [.list .int] = true := os_shapes args hpre
  obtain ⟨d, r, rfl, h1, h2⟩ := hasAllW_cons hsh
  obtain rfl := hasAllW_nil h2
  obtain ⟨xs, rfl, h3⟩ := hasW_list h1
  obtain ⟨ns, rfl⟩ := items_int h3
  have e : (ofPy (PyData.list (ns.map PyData.int))) = .list (ns.map WData.int) := by
    rw [← ofPys_ints]
    rfl
  have hs : (Codec.decAll [.list 0 16000 (.int (-2147483648) 18446744073709551615)] [ofPy (PyData.list (ns.map PyData.int))]).isSome = true := by
    rw [e]
    exact os_pre_isSome hpre
  obtain ⟨hdec, _, hmost, hitems⟩ := os_dec_ints hs
  rw [e] at hdec
  exact ⟨ns, rfl, hmost, hitems, os_pre_asked (r := rwS) hpre hdec, hdec⟩
end Att
namespace L2
open PySem PySem.Spec PyProof.Rows
/-- THE HEAD for a list of ints and a list of ints: the def's promise, at the heap behind the top -/
theorem spec_call {P : Program} {w : World} {K : PySem.W.Frag} {mg mb : Str → Option Value} {k : Nat} {fa a : Addr} {fd : FuncData} {x : Str} {sp : Sp} {s₁ : Shared} {vs : List Value} {ns out : List Int}
    (KX : K.In s₁.heap) (hns : s₁.heap.Ns mainGlobals mg) (hb : s₁.heap.Ns builtinsNs mb) (hbb : ∀ x : Str, x ≠ "__name__" → mb x = bootBuiltins x) (hlim : s₁.heap.NoLimit) (hg : s₁.gens = #[])
    (ha : s₁.heap.get? a = some { cls := .type "list", data := .seq vs.toArray }) (hi : IntsAre vs ns) (hl : ns.length ≤ sizeLine) (hr : Room k callerA)
    (F : ∀ base : Heap, K.In base → base.Ns mainGlobals mg → FnOk P w K mg base CX0 k fa fd [x] sp) (hbind : ∀ (s : Shared) (u : Value), BindsTo s fd ⟨[u], []⟩ [(x, u)])
    (hsp : ∀ H : Hp, Only H → SqL K H a (ns.map V.int) → sp [.ref a] H (fun v H' => ∃ p, v = .ref p ∧ H' p = some (.lst (out.map V.int))) E0) :
    codeAny (model P w) callerA (.call (.ref fa) ⟨[.ref a], []⟩) (fun r s' => (∃ p us n, r = .ok (.ret (.ref p)) ∧ s'.heap.get? p = some { cls := .type "list", data := .seq us n } ∧ IntsAre us.toList out) ∧ OldK s₁.heap s'.heap ∧ s'.os = s₁.os ∧ AllBare s'.gens) s₁ := by
  have rv := vals_ints hi
  have lenV := hi.length
  have core : ∀ H : Hp, Only H → SqL K H a (ns.map V.int) → HOk P w H s₁.heap → (∀ b, H b ≠ none → b = a) → (H a ≠ none → K.lookup a = none) →
      codeAny (model P w) callerA (.call (.ref fa) ⟨[.ref a], []⟩) (fun r s' => (∃ p us n, r = .ok (.ret (.ref p)) ∧ s'.heap.get? p = some { cls := .type "list", data := .seq us n } ∧ IntsAre us.toList out) ∧ OldK s₁.heap s'.heap ∧ s'.os = s₁.os ∧ AllBare s'.gens) s₁ := by
    intro H hO hS hok hA hK
    have base_of : ∀ {b : Addr} {o : Obj}, s₁.heap.get? b = some o → H b = none → (hidT s₁.heap H).get? b = some o := fun e n => hidT_get e n
    have noA : ∀ {b : Addr} {o : Obj} {es : Array DictEntry} {ep : Nat}, s₁.heap.get? b = some o → o.data = .dict es ep → H b = none := fun {b o es ep} e d => by
      cases q : H b with
      | none => rfl
      | some u =>
        have e' : b = a := hA b (by rw [q]; simp)
        subst e'
        rw [ha] at e; cases e
        have d' : Data.seq vs.toArray _ = Data.dict es ep := d
        cases d'
    have nsK : ∀ {b : Addr} {m : Str → Option Value}, s₁.heap.Ns b m → (hidT s₁.heap H).Ns b m := fun {b m} ⟨o, es, ep, e, d, r⟩ => ⟨o, es, ep, base_of e (noA e d), d, r⟩
    have hKb : K.In (hidT s₁.heap H) := fun b o e => base_of (KX b o e) (by
      cases q : H b with
      | none => rfl
      | some u =>
        have e' : b = a := hA b (by rw [q]; simp)
        subst e'
        rw [hK (by rw [q]; simp)] at e; cases e)
    have hM : Mod K mg (hidT s₁.heap H) := ⟨hKb, nsK hns, ⟨mb, nsK hb, hbb⟩, let ⟨mc, h1, h2⟩ := hlim; ⟨mc, nsK h1, h2⟩⟩
    have e0 : Env0 P w K mg (hidT s₁.heap H) callerA [] s₁ H := ⟨rfl, hM, fun b o e => of_hidT e, Nat.le_of_eq (hidT_size _ _), trivial, fun b hb => absurd (show b ∈ ([] : List Addr) from hb) (by simp), hok, .of_eq hg⟩
    refine codeAny_mono ((F _ hKb (nsK hns)).run callerA [] s₁ H ⟨[.ref a], []⟩ [.ref a] [.ref a] _ _ hr e0 (hbind s₁ (.ref a)) (.cons rfl .nil) (hsp H hO hS)) fun r s' h => ?_
    cases r with
    | error e => exact False.elim h
    | ok fl =>
      cases fl with
      | next => exact False.elim h
      | brk => exact False.elim h
      | cont => exact False.elim h
      | ret u =>
        obtain ⟨v, H', os, bare, un, hok', r', q⟩ := h
        obtain ⟨p, rfl, hp⟩ := q
        obtain rfl : u = Value.ref p := r'
        obtain ⟨_, its, n, ri, hp'⟩ := hok' p _ hp
        refine ⟨⟨p, its.toArray, n, rfl, hp', by simpa using ri.ints⟩, OldK.of_keep fun b o e => ?_, os, bare⟩
        cases q : H b with
        | none => exact un.keep b o e q (by intro z; exact absurd (show b ∈ ([] : List Addr) from z) (by simp)) (by simp)
        | some u =>
          rcases hO b with z | ⟨ob, xs, z⟩
          · rw [q] at z; cases z
          · have z2 := un.frzs b ob _ z
            obtain ⟨e1, _⟩ := hok b _ z
            obtain ⟨e2, _⟩ := hok' b _ z2
            rw [e] at e1; cases e1
            exact e2
  cases hk : K.lookup a with
  | some o =>
    have e := KX a o hk
    rw [ha] at e
    cases e
    refine core (fun _ => none) (fun _ => .inl rfl) (.inr ⟨_, vs.toArray, _, hk, rfl, rfl, rfl, by rw [List.size_toArray, lenV]; exact hl, by simpa using rv⟩) (fun b u z => by have z' : (none : Option HO) = some u := z; cases z') (fun b z => absurd rfl z) fun z => absurd rfl z
  | none =>
    refine core (fun b => if b = a then some (.frz { cls := .type "list", data := .seq vs.toArray } (.lst (ns.map V.int))) else none) (fun b => ?_) (.inl (.inr ⟨{ cls := .type "list", data := .seq vs.toArray }, if_pos rfl⟩)) (fun b u z => ?_) (fun b z => ?_) fun _ => hk
    · by_cases hb : b = a
      · exact .inr ⟨_, _, if_pos hb⟩
      · exact .inl (if_neg hb)
    · by_cases hb : b = a
      · have z' := (if_pos hb).symm.trans z
        cases z'
        subst hb
        exact ⟨ha, by rw [List.length_map]; exact hl, vs, _, rv, ha⟩
      · have z' := (if_neg hb).symm.trans z
        cases z'
    · by_cases hb : b = a
      · exact hb
      · exact absurd (if_neg hb) z
end L2
namespace Att
open PySem PySem.W PySem.Calls PyProof.Rows
/-- the goal that k_headS leaves (case hc), from the def's promise -/
theorem walkS {q : Program} {loose : List Str} {XP : (Str → Option Value) → Heap → Prop} {YP : World → Heap → Prop} {d : DefRec} {k : Nat} {K : Params → Frag} {x : Str} {sp : World → L2.Sp}
    (hdf : d.params.defaults = []) (hr : L2.Room k callerA) (hY : ∀ (w : World) (h : Heap), YP w h → (K w.params).In h)
    (F : ∀ (w : World) (mg : Str → Option Value) (fa : Addr) (h : Heap), (K w.params).In h → h.Ns mainGlobals mg → mg d.name = some (.ref fa) →
      ∃ fd : FuncData, (∀ (s : Shared) (u : Value), BindsTo s fd ⟨[u], []⟩ [(x, u)]) ∧ ∀ base : Heap, (K w.params).In base → base.Ns mainGlobals mg → L2.FnOk rwS.prog w (K w.params) mg base L2.CX0 k fa fd [x] (sp w))
    (hsp : ∀ (w : World) (H : L2.Hp) (a : Addr) (ns : List Int), ns.length ≤ 16000 → (∀ x ∈ ns, -2147483648 ≤ x ∧ x ≤ 18446744073709551615) → PySi24.answers_asked ns = true → L2.Only H → L2.SqL (K w.params) H a (ns.map L2.V.int) →
      sp w [.ref a] H (fun v H' => ∃ p, v = .ref p ∧ H' p = some (.lst ((PySi24.answers ns).map L2.V.int))) L2.E0) :
    WalkOS q loose XP YP rwS d [] (fun f vs => PySem.call f vs) := by
  intro w s₀ s₁ mg mb G Y fa o pm cd doc dV kV ho hd hcd hD hmg hg args vals as hpre hlay hrd hwl hlo
  obtain rfl : dV = .none := Dflts.none hD hdf
  obtain rfl : kV = .none := Dflts.noKw hD
  obtain ⟨ns, rfl, hmost, hitems, hasked, hdec⟩ := pre_ints hpre
  obtain ⟨a, vs, rfl, hobj, hints⟩ : ∃ a vs, vals = [Value.ref a] ∧ s₁.heap.get? a = some { cls := .type "list", data := .seq vs.toArray } ∧ IntsAre vs ns := by
    cases hwl with
    | cons w1 w2 =>
      cases w2
      cases w1 with
      | list ho hall => exact ⟨_, _, rfl, ho, ints_of_wellAll ns _ hall⟩
  have KX := hY w _ Y
  obtain ⟨fd, hb, hF⟩ := F w mg fa _ KX G.T.g hmg
  have hl : ns.length ≤ sizeLine := Nat.le_trans hmost (by decide)
  refine enter_call (codeAny_mono (L2.spec_call (out := PySi24.answers ns) KX G.T.g G.T.b G.T.builtins G.T.nolimit hg hobj hints hl hr hF hb (fun H hO hS => hsp w H a ns hmost hitems hasked hO hS)) fun r s' hq => ?_)
  obtain ⟨⟨p, us, n, rfl, hp, hi⟩, h2, h3, h4⟩ := hq
  refine ⟨.inl ⟨.ref p, .list ((PySi24.answers ns).map WData.int), _, rfl, fun _ => rfl, .list hp rfl rfl (readsAll_ints hi), ?_, fun z => absurd z (by decide)⟩, h2, h3, h4⟩
  exact osPost (r := rwS) (os_post (r := rwS) hdec (same_self _))
end Att
set_option maxHeartbeats 4000000
namespace Rs
open PySem L2
/-! ### the text by places -/
def top (i : Nat) : Stmt := PySem.Challenge.pw_readysets_s01_answers.main.body.getD i (.Pass ⟨0, 0, 0, 0⟩)
abbrev sMemberInit : Stmt := inClass (top 8) 0
abbrev sHouseInit : Stmt := inClass (top 9) 0
abbrev sBegin : Stmt := inClass (top 9) 1
abbrev sIsSet : Stmt := top 10
abbrev sNewMember : Stmt := top 11
abbrev sHasMember : Stmt := top 12
abbrev sRemoveMember : Stmt := top 13
abbrev sRise : Stmt := top 14
abbrev sSetsWithin : Stmt := top 15
abbrev sHasInIt : Stmt := top 16
abbrev sShows : Stmt := top 17
abbrev sShowsSomething : Stmt := top 18
abbrev sReadySets : Stmt := top 19
/-- what the walk asks of the text's top -/
structure Txt (K : PySem.W.Frag) (mg : Str → Option Value) (C D : Addr) : Prop where
  clC : Cls K C
  nSource : NoAttr K C "source"
  nBits : NoAttr K C "bits"
  nMode : NoAttr K C "mode"
  nData : NoAttr K C "data"
  nRisen : NoAttr K C "risen"
  nSleeps : NoAttr K C "sleeps"
  mgC : mg "Member" = some (.ref C)
  clD : Cls K D
  nLevels : NoAttr K D "levels"
  nSets : NoAttr K D "sets"
  mgD : mg "House" = some (.ref D)
  gSOURCES : ∃ t, mg "SOURCES" = some (.int 256 t)
  gSETS : ∃ t, mg "SETS" = some (.int 16 t)
  gREAD : ∃ t, mg "READ" = some (.int 1 t)
  gALWAYS : ∃ t, mg "ALWAYS_WANTED" = some (.int 12 t)
  gLEVEL : ∃ t, mg "BY_LEVEL" = some (.int 0 t)
  gEDGE : ∃ t, mg "BY_EDGE" = some (.int 1 t)
  gONCE : ∃ t, mg "ONCE" = some (.int 2 t)
  bany : mg "any" = none
  blen : mg "len" = none
/-- a def of the text: where it lies, how it binds -/
structure Fn (K : PySem.W.Frag) (mg : Str → Option Value) (x : Str) (st : Stmt) (ps : List Str) (f : Addr) (fd : FuncData) : Prop where
  F : Fun K x x st f fd
  m : mg x = some (.ref f)
  b : Binds K fd ps []
theorem bitAnd_nat (a b : Nat) : Builtin.bitAnd (a : Int) (b : Int) = ((a &&& b : Nat) : Int) := by
  rw [PyProof.Rows.bitAnd_pp (Int.natCast_nonneg a) (Int.natCast_nonneg b), Int.toNat_natCast, Int.toNat_natCast]
theorem bitOr_nat (a b : Nat) : Builtin.bitOr (a : Int) (b : Int) = ((a ||| b : Nat) : Int) := by
  have h : Builtin.bitNot (Builtin.bitAnd (Builtin.bitNot a) (Builtin.bitNot b)) = ((a ||| b : Nat) : Int) := by
    unfold Builtin.bitAnd
    have e1 : decide (0 ≤ Builtin.bitNot (a : Int)) = false := decide_eq_false (by unfold Builtin.bitNot; omega)
    have e2 : decide (0 ≤ Builtin.bitNot (b : Int)) = false := decide_eq_false (by unfold Builtin.bitNot; omega)
    rw [e1, e2]
    have n1 : (Builtin.bitNot (Builtin.bitNot (a : Int))).toNat = a := by unfold Builtin.bitNot; omega
    have n2 : (Builtin.bitNot (Builtin.bitNot (b : Int))).toNat = b := by unfold Builtin.bitNot; omega
    show Builtin.bitNot (Builtin.bitNot (((Builtin.bitNot (Builtin.bitNot (a : Int))).toNat ||| (Builtin.bitNot (Builtin.bitNot (b : Int))).toNat : Nat) : Int)) = _
    rw [n1, n2]
    unfold Builtin.bitNot
    omega
  exact h
section
variable {P : Program} {w : World} {K : PySem.W.Frag} {mg : Str → Option Value} {base : Heap} {C D : Addr}

/-! ### is_set -/
def spIsSet : Sp := fun vs H Q _ => ∃ z : Int, vs = [.int z] ∧ Q (.bl (decide (256 ≤ z))) H
theorem scIsSet : FnScope ["source"] ["source"] (defScope sIsSet) := ⟨rfl, rfl, rfl, by decide +kernel, rfl, by decide +kernel, by decide +kernel⟩
theorem ok_is_set {f : Addr} {fd : FuncData} (F : Fn K mg "is_set" sIsSet ["source"] f fd) (T : Txt K mg C D) : FnOk P w K mg base CX0 1 f fd ["source"] spIsSet := by
  refine F.F.ok scIsSet (fun vs H Q E h => ?_) (fun cdv A outer s H vs Q E hr h => ?_)
  · obtain ⟨z, rfl, _⟩ := h
    rfl
  · obtain ⟨z, rfl, k⟩ := h
    refine ⟨_, pss_one (ps_ret (pe_cmpR op_ge (pv 0) (pgi T.gSOURCES) (nomark _))), ?_⟩
    exact ⟨_, rfl, _, _, rfl, rfl, k⟩

/-! ### Member.__init__ -/
def spMemberInit (C : Addr) : Sp := fun vs H Q _ => ∃ (a dx : Addr) (s b m d r : Int), vs = [.ref a, .int s, .int b, .int m, .int d, .int r] ∧ H a = some (.ins C dx []) ∧ Q .non (upd H a (.ins C dx (mfR s b m d r false)))
theorem scMemberInit : FnScope ["self", "source", "bits", "mode", "data", "risen"] ["self", "source", "bits", "mode", "data", "risen"] (defScope sMemberInit) := ⟨rfl, rfl, rfl, by decide +kernel, rfl, by decide +kernel, by decide +kernel⟩
theorem ok_member_init {f : Addr} {fd : FuncData} (F : Fun K "__init__" "Member.__init__" sMemberInit f fd) (T : Txt K mg C D) : FnOk P w K mg base CX0 1 f fd ["self", "source", "bits", "mode", "data", "risen"] (spMemberInit C) := by
  refine F.ok scMemberInit (fun vs H Q E h => ?_) (fun cdv A outer s H vs Q E hr h => ?_)
  · obtain ⟨a, dx, s, b, m, d, r, rfl, _⟩ := h
    rfl
  · obtain ⟨a, dx, s, b, m, d, r, rfl, ha, k⟩ := h
    refine ⟨_, pss_cons (ps_fld (pv 0) (pv 1) rfl) (pss_cons (ps_fld (pv 0) (pv 2) rfl) (pss_cons (ps_fld (pv 0) (pv 3) rfl) (pss_cons (ps_fld (pv 0) (pv 4) rfl) (pss_cons (ps_fld (pv 0) (pv 5) rfl) (pss_one (ps_fld (pv 0) pe_bl rfl)))))), ?_⟩
    have l1 := putF_len "source" (V.int s) []
    have l2 := putF_len "bits" (V.int b) (putF "source" (V.int s) [])
    have l3 := putF_len "mode" (V.int m) (putF "bits" (V.int b) (putF "source" (V.int s) []))
    have l4 := putF_len "data" (V.int d) (putF "mode" (V.int m) (putF "bits" (V.int b) (putF "source" (V.int s) [])))
    have l5 := putF_len "risen" (V.int r) (putF "data" (V.int d) (putF "mode" (V.int m) (putF "bits" (V.int b) (putF "source" (V.int s) []))))
    have l0 : ([] : List (Str × V)).length = 0 := rfl
    refine ⟨_, rfl, _, rfl, a, C, dx, _, rfl, ha, T.clC, T.nSource, (by show 0 < 1000; decide), ?_⟩
    refine ⟨_, rfl, _, rfl, a, C, dx, _, rfl, upd_same, T.clC, T.nBits, (by omega), ?_⟩
    refine ⟨_, rfl, _, rfl, a, C, dx, _, rfl, upd_same, T.clC, T.nMode, (by omega), ?_⟩
    refine ⟨_, rfl, _, rfl, a, C, dx, _, rfl, upd_same, T.clC, T.nData, (by omega), ?_⟩
    refine ⟨_, rfl, _, rfl, a, C, dx, _, rfl, upd_same, T.clC, T.nRisen, (by omega), ?_⟩
    refine ⟨_, rfl, a, C, dx, _, rfl, upd_same, T.clC, T.nSleeps, (by omega), ?_⟩
    rw [upd_upd, upd_upd, upd_upd, upd_upd, upd_upd]
    exact k

/-! ### House.begin, House.__init__ -/
theorem upd_none {H : Hp} {a b : Addr} {o : HO} (h : upd H a o b = none) : H b = none ∧ b ≠ a := by
  by_cases e : b = a
  · subst e
    rw [upd_same] at h
    cases h
  · rw [upd_ne e] at h
    exact ⟨h, e⟩
/-- what a house that begins is like -/
def Begun (D : Addr) (H : Hp) (p dx lv sd : Addr) (H' : Hp) : Prop :=
  H lv = none ∧ H sd = none ∧ sd ≠ lv ∧ H' p = some (.ins D dx (hf lv sd)) ∧ H' lv = some (.lst (List.replicate 256 (.int 0))) ∧ H' sd = some (.dK []) ∧ ∀ b o, H b = some o → b ≠ p → H' b = some o
def spBegin (D : Addr) : Sp := fun vs H Q _ => ∃ (p dx : Addr) (fs : List (Str × V)), vs = [.ref p] ∧ H p = some (.ins D dx fs) ∧ (fs = [] ∨ ∃ lv sd, fs = hf lv sd) ∧ ∀ (lv sd : Addr) (H' : Hp), Begun D H p dx lv sd H' → Q .non H'
theorem scBegin : FnScope ["self"] ["self"] (defScope sBegin) := ⟨rfl, rfl, rfl, by decide +kernel, rfl, by decide +kernel, by decide +kernel⟩
theorem ok_begin {f : Addr} {fd : FuncData} (F : Fun K "begin" "House.begin" sBegin f fd) (T : Txt K mg C D) : FnOk P w K mg base CX0 1 f fd ["self"] (spBegin D) := by
  refine F.ok scBegin (fun vs H Q E h => ?_) (fun cdv A outer s H vs Q E hr h => ?_)
  · obtain ⟨p, dx, fs, rfl, _⟩ := h
    rfl
  · obtain ⟨p, dx, fs, rfl, hp, hfs, k⟩ := h
    refine ⟨_, pss_cons (ps_fld (pv 0) (pe_op op_rep (pe_lst (pa_cons pe_int pa_nil)) (pgi T.gSOURCES)) rfl) (pss_one (ps_fld (pv 0) pe_dnewK rfl)), ?_⟩
    have l0 : fs.length ≤ 2 := by
      rcases hfs with e | ⟨lv, sd, e⟩
      · rw [e]; exact Nat.zero_le _
      · rw [e, hf_eq]; exact Nat.le_refl _
    have l1 : fs.length < 1000 := by omega
    refine ⟨(by show 1 ≤ sizeLine; decide), fun l hl => ⟨l, 256, [.int 0], rfl, rfl, upd_same, by decide, by decide, (by show 1 * 256 ≤ sizeLine; decide), fun q hq => ?_⟩⟩
    obtain ⟨hq0, hql⟩ := upd_none hq
    have npl : p ≠ l := ne_of_none hp hl
    have npq : p ≠ q := ne_of_none hp hq0
    have e256 : (List.replicate (256 : Int).toNat [V.int 0]).flatten = List.replicate 256 (V.int 0) := by
      show (List.replicate 256 [V.int 0]).flatten = _
      exact List.flatten_replicate_singleton
    refine ⟨_, rfl, p, D, dx, fs, rfl, (by rw [upd_ne npq, upd_ne npl]; exact hp), T.clD, T.nLevels, l1, fun d hd => ?_⟩
    obtain ⟨hd1, hdp⟩ := upd_none hd
    obtain ⟨hd2, hdq⟩ := upd_none hd1
    obtain ⟨hd3, hdl⟩ := upd_none hd2
    have l2 : (putF "levels" (V.ref q) fs).length < 1000 := by have := putF_len "levels" (V.ref q) fs; omega
    refine ⟨_, rfl, p, D, dx, _, rfl, (by rw [upd_ne hdp.symm]; exact upd_same), T.clD, T.nSets, l2, ?_⟩
    have e2 : putF "sets" (V.ref d) (putF "levels" (V.ref q) fs) = hf q d := by
      rcases hfs with e | ⟨lv, sd, e⟩ <;> subst e
      · rfl
      · rw [hf_putL, hf_putS]
    refine k q d _ ⟨hq0, hd3, hdq, ?_, ?_, ?_, fun b o e hb => ?_⟩
    · rw [upd_same, e2]
    · rw [upd_ne npq.symm, upd_ne hdq.symm, upd_ne npq.symm, upd_same, e256]
    · rw [upd_ne hdp]; exact upd_same
    · rw [upd_ne hb, upd_ne (ne_of_none e hd3), upd_ne hb, upd_ne (ne_of_none e hq0), upd_ne (ne_of_none e hl)]
      exact e
def spHouseInit (D : Addr) : Sp := fun vs H Q _ => ∃ (p dx : Addr), vs = [.ref p] ∧ H p = some (.ins D dx []) ∧ ∀ (lv sd : Addr) (H' : Hp), Begun D H p dx lv sd H' → Q .non H'
theorem scHouseInit : FnScope ["self"] ["self"] (defScope sHouseInit) := ⟨rfl, rfl, rfl, by decide +kernel, rfl, by decide +kernel, by decide +kernel⟩
theorem ok_house_init {f fB : Addr} {fd fdB : FuncData} (F : Fun K "__init__" "House.__init__" sHouseInit f fd) (T : Txt K mg C D) (FB : Fun K "begin" "House.begin" sBegin fB fdB) (bB : Binds K fdB ["self"] []) (mB : Meth K D "begin" fB) :
    FnOk P w K mg base CX0 2 f fd ["self"] (spHouseInit D) := by
  have GB : FnOk P w K mg base CX0 1 fB fdB ["self"] (spBegin D) := ok_begin FB T
  refine F.ok scHouseInit (fun vs H Q E h => ?_) (fun cdv A outer s H vs Q E hr h => ?_)
  · obtain ⟨p, dx, rfl, _⟩ := h
    rfl
  · obtain ⟨p, dx, rfl, hp, k⟩ := h
    refine ⟨_, pss_one (ps_expr (pe_meth0 (pv 0) T.clD mB GB hr bB .nil pass0)), ?_⟩
    exact ⟨_, rfl, p, dx, _, rfl, hp, rfl, p, dx, [], rfl, hp, .inl rfl, k⟩

/-! ### new_member -/
def spNewMember (C D : Addr) : Sp := fun vs H Q _ => ∃ (h : Ho) (so : HO) (src bits mode data : Int), vs = [.ref h.p, .int src, .int bits, .int mode, .int data] ∧ HRd C D H h so ∧ h.lvs.length = 256 ∧ 0 ≤ src ∧
  ∀ (a dx : Addr) (H' : Hp), H a = none → H' a = some (.ins C dx (mfR src bits mode data (if 256 ≤ src then 0 else (h.lvs.getD src.toNat 0 : Nat)) false)) → Same H H' → Q (.ref a) H'
theorem scNewMember : FnScope ["house", "source", "bits", "mode", "data", "risen"] ["house", "source", "bits", "mode", "data"] (defScope sNewMember) := ⟨rfl, rfl, rfl, by decide +kernel, rfl, by decide +kernel, by decide +kernel⟩
theorem ok_new_member {f fI fM : Addr} {fd fdI fdM : FuncData} (F : Fn K mg "new_member" sNewMember ["house", "source", "bits", "mode", "data"] f fd) (T : Txt K mg C D) (FI : Fn K mg "is_set" sIsSet ["source"] fI fdI)
    (M : Mk K C fM) (FM : Fun K "__init__" "Member.__init__" sMemberInit fM fdM) (bM : Binds K fdM ["self", "source", "bits", "mode", "data", "risen"] []) :
    FnOk P w K mg base CX0 3 f fd ["house", "source", "bits", "mode", "data"] (spNewMember C D) := by
  have GI : FnOk P w K mg base CX0 1 fI fdI ["source"] spIsSet := ok_is_set FI T
  have GM : FnOk P w K mg base CX0 1 fM fdM ["self", "source", "bits", "mode", "data", "risen"] (spMemberInit C) := ok_member_init FM T
  refine F.F.ok scNewMember (fun vs H Q E h => ?_) (fun cdv A outer s H vs Q E hr h => ?_)
  · obtain ⟨h, so, src, bits, mode, data, rfl, _⟩ := h
    rfl
  · obtain ⟨h, so, src, bits, mode, data, rfl, R, hlen, h0, k⟩ := h
    have hr1 : Room 1 _ := hr.mono (by decide)
    refine ⟨_, pss_cons (ps_set (i := 5) scNewMember.nd rfl (Or.inl rfl) (pe_ifExp (pt_val (pe_call GI hr1 rfl FI.m FI.F.kp FI.b .nil pass0 (pa_cons (pv 1) pa_nil))) pe_int (pe_ix ix_list (pe_fld (pv 0) rfl) (pv 1) (fun _ _ => rfl))))
      (pss_one (ps_ret (pe_make M GM hr rfl T.mgC bM .nil pass0 (pa_cons (pv 1) (pa_cons (pv 2) (pa_cons (pv 3) (pa_cons (pv 4) (pa_cons (pv 5) pa_nil)))))))), ?_⟩
    obtain ⟨dp, hp⟩ := R.ob
    refine ⟨_, rfl, _, rfl, _, rfl, ite2 (fun hq => ?_) (fun hq => ?_)⟩
    · have hq' : 256 ≤ src := of_decide_eq_true hq
      refine ⟨_, rfl, _, rfl, _, rfl, _, rfl, _, rfl, fun x dx nx nd ne => ?_⟩
      refine ⟨x, dx, _, _, _, _, _, rfl, upd_same, rfl, ?_⟩
      refine k x dx _ nx ?_ ?_
      · rw [upd_same, if_pos hq']
      · rw [upd_upd]
        exact fun b o e => by rw [upd_ne (ne_of_none e nx), upd_ne (ne_of_none e nd)]; exact e
    · have hq' : ¬ 256 ≤ src := fun z => hq (decide_eq_true z)
      obtain ⟨j, rfl⟩ : ∃ j : Nat, src = (j : Int) := ⟨src.toNat, by omega⟩
      have hj : j < h.lvs.length := by omega
      refine ⟨_, rfl, h.p, D, dp, _, _, rfl, hp, T.clD, T.nLevels, hf_levels _ _, _, rfl, h.lv, _, _, _, rfl, rfl, SqL.of R.lvl, at_of (j := j) (v := V.int (h.lvs.getD j 0 : Nat)) rfl ?_, ?_⟩
      · rw [List.getElem?_map, List.getD_eq_getElem?_getD, List.getElem?_eq_getElem hj]
        rfl
      · refine ⟨_, rfl, _, rfl, _, rfl, _, rfl, _, rfl, fun x dx nx nd ne => ?_⟩
        refine ⟨x, dx, _, _, _, _, _, rfl, upd_same, rfl, ?_⟩
        refine k x dx _ nx ?_ ?_
        · rw [upd_same, if_neg hq', Int.toNat_natCast]
        · rw [upd_upd]
          exact fun b o e => by rw [upd_ne (ne_of_none e nx), upd_ne (ne_of_none e nd)]; exact e

/-! ### has_member -/
def spHasMember (C D : Addr) : Sp := fun vs H Q _ => ∃ (h : Ho) (so : HO) (e : Ent) (src : Int), vs = [.ref h.p, .int e.k, .int src] ∧ HRd C D H h so ∧ HG0 h ∧ e ∈ h.L ∧
  ∀ H', Same H H' → Q (.bl (e.ms.any fun x => decide ((x.2.src : Int) = src))) H'
theorem scHasMember : FnScope ["house", "number", "source", "member"] ["house", "number", "source"] (defScope sHasMember) := ⟨rfl, rfl, rfl, by decide +kernel, rfl, by decide +kernel, by decide +kernel⟩
theorem few_size {h : Ho} (g : HG0 h) {e : Ent} (he : e ∈ h.L) : e.ms.length < sizeLine := Nat.lt_of_le_of_lt (g.few e he) (by decide)
theorem any_map_bl (l : List (Nat × Si24.Member)) (p : Nat × Si24.Member → Bool) : (l.map p).any id = l.any p := by
  rw [List.any_map]; rfl
theorem bkHasMember : BlkOk ["house", "number", "source", "member"] (defScope sHasMember) (lcs [(".0", .local), ("member", .local), ("source", .free)]) [("member", 3)] := ⟨rfl, by decide +kernel, by decide +kernel, by decide +kernel, by decide +kernel⟩
theorem ok_has_member {f : Addr} {fd : FuncData} (F : Fn K mg "has_member" sHasMember ["house", "number", "source"] f fd) (T : Txt K mg C D) : FnOk P w K mg base CX0 1 f fd ["house", "number", "source"] (spHasMember C D) := by
  refine F.F.ok scHasMember (fun vs H Q E h => ?_) (fun cdv A outer s H vs Q E hr h => ?_)
  · obtain ⟨h, so, e, src, rfl, _⟩ := h
    rfl
  · obtain ⟨h, so, e, src, rfl, R, g, he, k⟩ := h
    have hu := hu_of hr
    obtain ⟨dp, hp⟩ := R.ob
    refine ⟨_, pss_one (ps_ret (pe_callB (cr_any rfl) (by rfl) T.bany PyProof.Rows.boot_any (pa_cons (pe_lc (own := [("member", 3)]) (te := tOp rEq (tFld K (tVar 3) "source") (tVar 2)) rfl scHasMember.nd (pi_list (pe_dget hu (pe_fld (pv 0) rfl) (pv 1) (fun _ _ => rfl)))
      bkHasMember (fun _ _ _ _ _ => pg_name (i := 3) scHasMember.nd rfl (Or.inl rfl)) (fun _ _ _ _ _ => pts_nil) (fun _ _ _ _ _ => pe_cmpR op_eq (pe_fld (pv 3) rfl) (pv 2) (nomark _))) pa_nil))), ?_⟩
    refine ⟨_, rfl, h.p, D, dp, _, _, rfl, hp, T.clD, T.nSets, hf_sets _ _, _, rfl, h.sd, _, rfl, R.get_at g he, e.l, rfl, ⟨_, SqL.of (R.lst e he)⟩, fun B hB => ?_⟩
    refine lcl_list (K := K) (a := e.l) (xs := e.ms.map fun x => V.ref x.1) (fun i acc H' => Same H H' ∧ acc = ((e.ms.take i).map fun x => V.bl (decide ((x.2.src : Int) = src)))) ⟨same_new hB, rfl⟩ (fun i acc H' _ _ q => q.1.seq (SqL.of (R.lst e he))) ?_ ?_
    · rintro i x acc H' hi hD hac ⟨sm, rfl⟩
      rw [List.getElem?_map] at hi
      cases c : e.ms[i]? with
      | none => rw [c] at hi; cases hi
      | some y =>
        rw [c] at hi
        obtain rfl : V.ref y.1 = x := Option.some.inj hi
        obtain ⟨dx, hy⟩ := R.mem e he y (List.mem_of_getElem? c)
        have hil : i < e.ms.length := (List.getElem?_eq_some_iff.mp c).1
        have hfew := few_size g he
        refine ⟨rfl, _, rfl, y.1, C, dx, _, _, rfl, sm _ _ hy, T.clC, T.nSource, mfR_source, _, rfl, rfl, _, hD, (by rw [List.length_map, List.length_take]; omega), _, upd_same, (by rw [List.length_append, List.length_map, List.length_take]; simp; omega), ?_, ?_⟩
        · exact fun b o q => by rw [upd_ne (ne_of_none q hB)]; exact sm b o q
        · rw [List.take_add_one, c, List.map_append]
          refine congrArg (fun z => _ ++ [V.bl z]) ?_
          exact decide_eq_decide.mpr ⟨fun q => by injection q, fun q => by rw [q]⟩
    · rintro acc H' hD ⟨sm, rfl⟩
      rw [List.length_map, List.take_length] at hD
      refine ⟨B, e.ms.map fun x => decide ((x.2.src : Int) = src), rfl, SqL.of (by rw [hD, List.map_map]; rfl), ?_⟩
      rw [any_map_bl]
      exact k H' sm
end
end Rs
namespace Rs
open PySem L2
section
variable {P : Program} {w : World} {K : PySem.W.Frag} {mg : Str → Option Value} {base : Heap} {C D : Addr}
theorem ref_at {ms : List (Nat × Si24.Member)} {i : Nat} {x : V} (h : (ms.map fun x => V.ref x.1)[i]? = some x) : ∃ y, ms[i]? = some y ∧ x = V.ref y.1 := by
  rw [List.getElem?_map] at h
  cases c : ms[i]? with
  | none => rw [c] at h; cases h
  | some y =>
    rw [c] at h
    exact ⟨y, rfl, (Option.some.inj h).symm⟩

/-! ### remove_member -/
def spRemoveMember (C D : Addr) : Sp := fun vs H Q _ => ∃ (h : Ho) (e : Ent) (src : Int), vs = [.ref h.p, .int e.k, .int src] ∧ HAt C D H h ∧ HG0 h ∧ e ∈ h.L ∧
  ∀ (l : Addr) (H' : Hp), H l = none → HAt C D H' { h with L := putE h.L e.k l (without e.ms src) } → (∀ b o, H b = some o → b ≠ h.sd → H' b = some o) → Q .non H'
theorem scRemoveMember : FnScope ["house", "number", "source", "member"] ["house", "number", "source"] (defScope sRemoveMember) := ⟨rfl, rfl, rfl, by decide +kernel, rfl, by decide +kernel, by decide +kernel⟩
theorem kvs_size {h : Ho} (g : HG0 h) : (kvsOf h.L).length < sizeLine := by
  have : h.L.length ≤ 16 := by
    have n := g.good.nd
    have s : (h.L.map (·.k)) ⊆ List.range 16 := fun x hx => by
      obtain ⟨e, he, rfl⟩ := List.mem_map.mp hx
      exact List.mem_range.mpr (g.good.lt e he)
    have := List.Nodup.length_le_of_subset n s
    rw [List.length_map, List.length_range] at this
    exact this
  show (h.L.map _).length < _
  rw [List.length_map]
  exact Nat.lt_of_le_of_lt this (by decide)
theorem bkRemoveMember : BlkOk ["house", "number", "source", "member"] (defScope sRemoveMember) (lcs [(".0", .local), ("member", .local), ("source", .free)]) [("member", 3)] := ⟨rfl, by decide +kernel, by decide +kernel, by decide +kernel, by decide +kernel⟩
theorem ok_remove_member {f : Addr} {fd : FuncData} (F : Fn K mg "remove_member" sRemoveMember ["house", "number", "source"] f fd) (T : Txt K mg C D) : FnOk P w K mg base CX0 1 f fd ["house", "number", "source"] (spRemoveMember C D) := by
  refine F.F.ok scRemoveMember (fun vs H Q E h => ?_) (fun cdv A outer s H vs Q E hr h => ?_)
  · obtain ⟨h, e, src, rfl, _⟩ := h
    rfl
  · obtain ⟨h, e, src, rfl, R, g, he, k⟩ := h
    have hu := hu_of hr
    obtain ⟨dp, hp⟩ := R.ob
    refine ⟨_, pss_one (ps_dput hu (pe_fld (pv 0) rfl) (pv 1) (pe_lc (own := [("member", 3)]) (tt := tTest (tOp rNe (tFld K (tVar 3) "source") (tVar 2))) (te := tVar 3) rfl scRemoveMember.nd (pi_list (pe_dget hu (pe_fld (pv 0) rfl) (pv 1) (fun _ _ => rfl)))
      bkRemoveMember (fun _ _ _ _ _ => pg_name (i := 3) scRemoveMember.nd rfl (Or.inl rfl)) (fun _ _ _ _ _ => pts_one (pt_cmpR op_ne (pe_fld (pv 3) rfl) (pv 2) (nomark _))) (fun _ _ _ _ _ => pv 3)) rfl), ?_⟩
    refine ⟨_, rfl, h.p, D, dp, _, _, rfl, hp, T.clD, T.nSets, hf_sets _ _, _, rfl, h.sd, _, rfl, R.get_at g he, e.l, rfl, ⟨_, SqL.of (R.lst e he)⟩, fun B hB => ?_⟩
    refine lcl_list (K := K) (a := e.l) (xs := e.ms.map fun x => V.ref x.1) (fun i acc H' => Same H H' ∧ acc = ((without (e.ms.take i) src).map fun x => V.ref x.1)) ⟨same_new hB, rfl⟩ (fun i acc H' _ _ q => q.1.seq (SqL.of (R.lst e he))) ?_ ?_
    · rintro i x acc H' hi hD hac ⟨sm, rfl⟩
      obtain ⟨y, c, rfl⟩ := ref_at hi
      obtain ⟨dx, hy⟩ := R.mem e he y (List.mem_of_getElem? c)
      have hil : i < e.ms.length := (List.getElem?_eq_some_iff.mp c).1
      have hfew := few_size g he
      have ws := without_take (src := src) c
      refine ⟨rfl, _, rfl, y.1, C, dx, _, _, rfl, sm _ _ hy, T.clC, T.nSource, mfR_source, _, rfl, rfl, _, rfl, ?_⟩
      by_cases q : (y.2.src : Int) = src
      · rw [decide_eq_true (show V.int (y.2.src : Int) = V.int src by rw [q])]
        rw [if_pos q] at ws
        exact iteF ⟨_, hD, Nat.le_succ_of_le hac, sm, by rw [ws]⟩
      · rw [decide_eq_false (show ¬ V.int (y.2.src : Int) = V.int src from fun z => q (by injection z))]
        rw [if_neg q] at ws
        refine iteT ⟨_, rfl, _, hD, by omega, _, upd_same, (by rw [List.length_append]; show _ + 1 ≤ _; omega), fun b o z => by rw [upd_ne (ne_of_none z hB)]; exact sm b o z, ?_⟩
        rw [ws, List.map_append]; rfl
    · rintro acc H' hD ⟨sm, rfl⟩
      rw [List.length_map, List.take_length] at hD
      have R' := R.same sm
      obtain ⟨dp', hp'⟩ := R'.ob
      refine ⟨_, rfl, h.p, D, dp', _, _, rfl, hp', T.clD, T.nSets, hf_sets _ _, _, rfl, h.sd, _, rfl, DPut.k (k := Sum.inl (e.k : Int)) R'.sds (kvs_size g), ?_⟩
      have nB : B ≠ h.sd := (ne_of_none R.sds hB).symm
      refine k B _ hB (HRd.put (so := .dK (kvsOf h.L)) R' (fun b o z n => by rw [upd_ne n]; exact z) R'.apart ?_ ?_ ?_) (fun b o z n => by rw [upd_ne n]; exact sm b o z)
      · rw [upd_ne nB]; exact hD
      · rw [upd_same, putK_at he B (without e.ms src)]
      · intro x hx
        obtain ⟨dx, q⟩ := R'.mem e he x (List.mem_filter.mp hx).1
        exact ⟨dx, by rw [upd_ne (R'.apart _ (.inr (.inr (.inr ⟨e, he, x, (List.mem_filter.mp hx).1, rfl⟩))))]; exact q⟩

/-! ### sets_within -/
def kidsE (ms : List (Nat × Si24.Member)) : List Nat := (ms.filter fun x => decide (256 ≤ x.2.src)).map fun x => x.2.src - 256
theorem kids_lay {L : List Ent} (G : Good L) (lv : List Nat) {e : Ent} (he : e ∈ L) : kids (absSt lv L) e.k = kidsE e.ms := by
  unfold kids kidsE
  rw [members_at G lv he]
  unfold Ent.mem
  rw [List.filter_map, List.map_map]
  rfl
theorem kidsE_take {ms : List (Nat × Si24.Member)} {i : Nat} {y : Nat × Si24.Member} (c : ms[i]? = some y) : kidsE (ms.take (i + 1)) = if 256 ≤ y.2.src then kidsE (ms.take i) ++ [y.2.src - 256] else kidsE (ms.take i) := by
  unfold kidsE
  rw [List.take_add_one, c, List.filter_append, List.map_append]
  show _ ++ List.map _ (List.filter _ [y]) = _
  by_cases q : 256 ≤ y.2.src
  · rw [if_pos q, List.filter_cons, if_pos (decide_eq_true q), List.filter_nil]; rfl
  · rw [if_neg q, List.filter_cons, if_neg (by rw [decide_eq_false q]; decide), List.filter_nil, List.map_nil, List.append_nil]
theorem kidsE_len (ms : List (Nat × Si24.Member)) : (kidsE ms).length ≤ ms.length := by
  unfold kidsE; rw [List.length_map]; exact List.length_filter_le _ _
def spSetsWithin (C D : Addr) : Sp := fun vs H Q _ => ∃ (h : Ho) (so : HO) (e : Ent), vs = [.ref h.p, .int e.k] ∧ HRd C D H h so ∧ HG0 h ∧ e ∈ h.L ∧
  ∀ (l : Addr) (H' : Hp), H l = none → H' l = some (.lst ((kidsE e.ms).map fun n : Nat => V.int n)) → Same H H' → Q (.ref l) H'
theorem scSetsWithin : FnScope ["house", "number", "member"] ["house", "number"] (defScope sSetsWithin) := ⟨rfl, rfl, rfl, by decide +kernel, rfl, by decide +kernel, by decide +kernel⟩
theorem bkSetsWithin : BlkOk ["house", "number", "member"] (defScope sSetsWithin) (lcs [(".0", .local), ("member", .local), ("is_set", .globalImplicit), ("SOURCES", .globalImplicit)]) [("member", 2)] := ⟨rfl, by decide +kernel, by decide +kernel, by decide +kernel, by decide +kernel⟩
theorem ok_sets_within {f fI : Addr} {fd fdI : FuncData} (F : Fn K mg "sets_within" sSetsWithin ["house", "number"] f fd) (T : Txt K mg C D) (FI : Fn K mg "is_set" sIsSet ["source"] fI fdI) : FnOk P w K mg base CX0 2 f fd ["house", "number"] (spSetsWithin C D) := by
  have GI : FnOk P w K mg base CX0 1 fI fdI ["source"] spIsSet := ok_is_set FI T
  refine F.F.ok scSetsWithin (fun vs H Q E h => ?_) (fun cdv A outer s H vs Q E hr h => ?_)
  · obtain ⟨h, so, e, rfl, _⟩ := h
    rfl
  · obtain ⟨h, so, e, rfl, R, g, he, k⟩ := h
    have hu := hu_of hr
    obtain ⟨dp, hp⟩ := R.ob
    refine ⟨_, pss_one (ps_ret (pe_lc (own := [("member", 2)]) (tt := tB (tCall spIsSet [] E0 (tCons (tFld K (tVar 2) "source") tNil))) (te := tOp (rI0 fun i j => .int (i - j)) (tFld K (tVar 2) "source") (tC (.int 256))) rfl scSetsWithin.nd (pi_list (pe_dget hu (pe_fld (pv 0) rfl) (pv 1) (fun _ _ => rfl)))
      bkSetsWithin (fun _ _ _ _ _ => pg_name (i := 2) scSetsWithin.nd rfl (Or.inl rfl))
      (fun _ _ _ _ _ => pts_one (pt_val (pe_call GI hr rfl FI.m FI.F.kp FI.b .nil pass0 (pa_cons (pe_fld (pv 2) rfl) pa_nil)))) (fun _ _ _ _ _ => pe_op op_sub (pe_fld (pv 2) rfl) (pgi T.gSOURCES)))), ?_⟩
    refine ⟨_, rfl, h.p, D, dp, _, _, rfl, hp, T.clD, T.nSets, hf_sets _ _, _, rfl, h.sd, _, rfl, R.get_at g he, e.l, rfl, ⟨_, SqL.of (R.lst e he)⟩, fun B hB => ?_⟩
    refine lcl_list (K := K) (a := e.l) (xs := e.ms.map fun x => V.ref x.1) (fun i acc H' => Same H H' ∧ acc = ((kidsE (e.ms.take i)).map fun n : Nat => V.int n)) ⟨same_new hB, rfl⟩ (fun i acc H' _ _ q => q.1.seq (SqL.of (R.lst e he))) ?_ ?_
    · rintro i x acc H' hi hD hac ⟨sm, rfl⟩
      obtain ⟨y, c, rfl⟩ := ref_at hi
      obtain ⟨dx, hy⟩ := R.mem e he y (List.mem_of_getElem? c)
      have hil : i < e.ms.length := (List.getElem?_eq_some_iff.mp c).1
      have hfew := few_size g he
      have ws := kidsE_take c
      refine ⟨rfl, _, rfl, y.1, C, dx, _, _, rfl, sm _ _ hy, T.clC, T.nSource, mfR_source, _, rfl, _, rfl, ?_⟩
      by_cases q : 256 ≤ y.2.src
      · rw [decide_eq_true (show (256 : Int) ≤ (y.2.src : Int) by omega)]
        rw [if_pos q] at ws
        refine iteT ⟨_, rfl, y.1, C, dx, _, _, rfl, sm _ _ hy, T.clC, T.nSource, mfR_source, _, _, rfl, rfl, _, hD, by omega, _, upd_same, (by rw [List.length_append]; show _ + 1 ≤ _; omega), fun b o z => by rw [upd_ne (ne_of_none z hB)]; exact sm b o z, ?_⟩
        rw [ws, List.map_append]
        refine congrArg (fun z => _ ++ [V.int z]) ?_
        omega
      · rw [decide_eq_false (show ¬ (256 : Int) ≤ (y.2.src : Int) by omega)]
        rw [if_neg q] at ws
        exact iteF ⟨_, hD, Nat.le_succ_of_le hac, sm, by rw [ws]⟩
    · rintro acc H' hD ⟨sm, rfl⟩
      rw [List.length_map, List.take_length] at hD
      exact k B H' hB hD sm

/-! ### shows -/
def spShows (C D : Addr) : Sp := fun vs H Q _ => ∃ (h : Ho) (so : HO) (a dx r : Addr) (m : Si24.Member) (S : List Nat), vs = [.ref h.p, .ref a, .ref r] ∧ HRd C D H h so ∧ h.lvs.length = 256 ∧ H a = some (.ins C dx (mf m)) ∧ Rd H r (.dK (rkv S)) ∧
  Q (.int (showsR h.st (fun k => decide (k ∈ S)) m : Nat)) H
theorem scShows : FnScope ["house", "member", "ready", "watched"] ["house", "member", "ready"] (defScope sShows) := ⟨rfl, rfl, rfl, by decide +kernel, rfl, by decide +kernel, by decide +kernel⟩
theorem modeV_edge (m : Si24.Mode) : decide (V.int (modeV m) = V.int 1) = decide (m = .edge) := by
  cases m <;> decide
theorem ok_shows {f fI : Addr} {fd fdI : FuncData} (F : Fn K mg "shows" sShows ["house", "member", "ready"] f fd) (T : Txt K mg C D) (FI : Fn K mg "is_set" sIsSet ["source"] fI fdI) : FnOk P w K mg base CX0 2 f fd ["house", "member", "ready"] (spShows C D) := by
  have GI : FnOk P w K mg base CX0 1 fI fdI ["source"] spIsSet := ok_is_set FI T
  refine F.F.ok scShows (fun vs H Q E h => ?_) (fun cdv A outer s H vs Q E hr h => ?_)
  · obtain ⟨h, so, a, dx, r, m, S, rfl, _⟩ := h
    rfl
  · obtain ⟨h, so, a, dx, r, m, S, rfl, R, hlen, ha, hS, k⟩ := h
    have hu := hu_of hr
    obtain ⟨dp, hp⟩ := R.ob
    refine ⟨_, pss_cons (ps_set (i := 3) scShows.nd rfl (Or.inl rfl) (pe_op op_or (pe_fld (pv 1) rfl) (pgi T.gALWAYS)))
      (pss_cons (ps_if (pt_val (pe_call GI hr rfl FI.m FI.F.kp FI.b .nil pass0 (pa_cons (pe_fld (pv 1) rfl) pa_nil)))
        (pss_one (ps_ret (pe_ifExp (pt_cmp (pc_din hu (pe_op op_sub (pe_fld (pv 1) rfl) (pgi T.gSOURCES)) (pv 2))) (pe_op op_and (pgi T.gREAD) (pv 3)) pe_int))) pss_nil)
      (pss_cons (ps_if (pt_val (pe_fld (pv 1) rfl)) (pss_one (ps_ret pe_int)) pss_nil)
      (pss_cons (ps_if (pt_cmpR op_eq (pe_fld (pv 1) rfl) (pgi T.gEDGE) (nomark _)) (pss_one (ps_ret (pe_op op_and (pe_fld (pv 1) rfl) (pv 3)))) pss_nil)
      (pss_one (ps_ret (pe_op op_and (pe_ix ix_list (pe_fld (pv 0) rfl) (pe_fld (pv 1) rfl) (fun _ _ => rfl)) (pv 3))))))), ?_⟩
    have ew : Builtin.bitOr (m.bits : Int) 12 = ((m.watched : Nat) : Int) := bitOr_nat m.bits 12
    refine ⟨_, rfl, a, C, dx, _, _, rfl, ha, T.clC, T.nBits, mfR_bits, _, _, rfl, rfl, ?_⟩
    dsimp only
    rw [ew]
    refine ⟨_, rfl, a, C, dx, _, _, rfl, ha, T.clC, T.nSource, mfR_source, _, rfl, _, rfl, ite2 (fun hq => ?_) (fun hq => ?_)⟩
    · have hq' : 256 ≤ m.src := by have := of_decide_eq_true hq; omega
      refine ⟨_, rfl, a, C, dx, _, _, rfl, ha, T.clC, T.nSource, mfR_source, _, _, rfl, rfl, _, rfl, r, _, rfl, .inl ⟨_, Sum.inl ((m.src : Int) - 256), hS, rfl, rfl⟩, _, rfl, ?_⟩
      have ek : ((m.src : Int) - 256) = ((m.src - 256 : Nat) : Int) := by omega
      rw [ek, valV_rkv]
      by_cases q : m.src - 256 ∈ S
      · rw [decide_eq_true q]
        refine iteT ⟨_, rfl, _, _, rfl, rfl, ?_⟩
        have e1 : showsR h.st (fun k => decide (k ∈ S)) m = 1 &&& m.watched := by
          unfold showsR
          rw [if_pos (show Si24.SOURCES ≤ m.src from hq'), if_pos (show decide (m.src - Si24.SOURCES ∈ S) = true from decide_eq_true q)]
        have e2 : Builtin.bitAnd 1 ((m.watched : Nat) : Int) = ((1 &&& m.watched : Nat) : Int) := bitAnd_nat 1 m.watched
        show Q (V.int (Builtin.bitAnd 1 ((m.watched : Nat) : Int))) H
        rw [e2, ← e1]
        exact k
      · rw [decide_eq_false q]
        refine iteF ?_
        have e1 : showsR h.st (fun k => decide (k ∈ S)) m = 0 := by
          unfold showsR
          rw [if_pos (show Si24.SOURCES ≤ m.src from hq'), if_neg (show ¬ decide (m.src - Si24.SOURCES ∈ S) = true from fun z => q (of_decide_eq_true z))]
        rw [e1] at k
        exact k
    · have hq' : ¬ 256 ≤ m.src := fun z => hq (decide_eq_true (by omega))
      have hS0 : ¬ Si24.SOURCES ≤ m.src := hq'
      refine ⟨_, rfl, a, C, dx, _, _, rfl, ha, T.clC, T.nSleeps, mfR_sleeps, _, rfl, ite2 (fun hz => ?_) (fun hz => ?_)⟩
      · have e1 : showsR h.st (fun k => decide (k ∈ S)) m = 0 := by
          unfold showsR
          rw [if_neg hS0, if_pos hz]
        rw [e1] at k
        exact k
      · refine ⟨_, rfl, a, C, dx, _, _, rfl, ha, T.clC, T.nMode, mfR_mode, rfl, _, rfl, ?_⟩
        dsimp only
        rw [modeV_edge]
        refine ite2 (fun he => ?_) (fun he => ?_)
        · have he' := of_decide_eq_true he
          have e1 : showsR h.st (fun k => decide (k ∈ S)) m = m.risen &&& m.watched := by
            unfold showsR
            rw [if_neg hS0, if_neg hz, if_pos he']
          refine ⟨_, rfl, a, C, dx, _, _, rfl, ha, T.clC, T.nRisen, mfR_risen, _, rfl, _, _, rfl, rfl, ?_⟩
          dsimp only
          rw [bitAnd_nat, ← e1]
          exact k
        · have he' : ¬ m.mode = .edge := fun z => he (decide_eq_true z)
          have e1 : showsR h.st (fun k => decide (k ∈ S)) m = h.lvs.getD m.src 0 &&& m.watched := by
            unfold showsR
            rw [if_neg hS0, if_neg hz, if_neg he']
            rfl
          have hj : m.src < h.lvs.length := by omega
          refine ⟨_, rfl, h.p, D, dp, _, _, rfl, hp, T.clD, T.nLevels, hf_levels _ _, _, rfl, a, C, dx, _, _, rfl, ha, T.clC, T.nSource, mfR_source, h.lv, _, _, _, rfl, rfl, SqL.of R.lvl, at_of (j := m.src) (v := V.int (h.lvs.getD m.src 0 : Nat)) rfl ?_, _, rfl, _, _, rfl, rfl, ?_⟩
          · rw [List.getElem?_map, List.getD_eq_getElem?_getD, List.getElem?_eq_getElem hj]
            rfl
          · dsimp only
            rw [bitAnd_nat, ← e1]
            exact k
end
end Rs
namespace Rs
open PySem L2
section
variable {P : Program} {w : World} {K : PySem.W.Frag} {mg : Str → Option Value} {base : Heap} {C D : Addr}

/-! ### shows_something -/
theorem rdy_lay {h : Ho} (g : HG0 h) {e : Ent} (he : e ∈ h.L) (R : Nat → Bool) : rdy h.st R e.k = e.ms.any fun x => showsR h.st R x.2 != 0 := by
  unfold rdy
  show ((absSt h.lvs h.L).members e.k).any _ = _
  rw [members_at g.good h.lvs he]
  unfold Ent.mem
  rw [List.any_map]
  rfl
def spShowsSomething (C D : Addr) : Sp := fun vs H Q _ => ∃ (h : Ho) (so : HO) (e : Ent) (r : Addr) (S : List Nat), vs = [.ref h.p, .int e.k, .ref r] ∧ HRd C D H h so ∧ HG0 h ∧ e ∈ h.L ∧ Rd H r (.dK (rkv S)) ∧
  ∀ H', Same H H' → Q (.bl (rdy h.st (fun k => decide (k ∈ S)) e.k)) H'
theorem scShowsSomething : FnScope ["house", "number", "ready", "member"] ["house", "number", "ready"] (defScope sShowsSomething) := ⟨rfl, rfl, rfl, by decide +kernel, rfl, by decide +kernel, by decide +kernel⟩
theorem Same.rd {H H' : Hp} (s : Same H H') {a : Addr} {u : HO} (r : Rd H a u) : Rd H' a u := by
  rcases r with r | ⟨o, r⟩
  · exact .inl (s _ _ r)
  · exact .inr ⟨o, s _ _ r⟩
theorem bkShowsSomething : BlkOk ["house", "number", "ready", "member"] (defScope sShowsSomething) (lcs [(".0", .local), ("member", .local), ("shows", .globalImplicit), ("house", .free), ("ready", .free)]) [("member", 3)] := ⟨rfl, by decide +kernel, by decide +kernel, by decide +kernel, by decide +kernel⟩
theorem ok_shows_something {f fS fI : Addr} {fd fdS fdI : FuncData} (F : Fn K mg "shows_something" sShowsSomething ["house", "number", "ready"] f fd) (T : Txt K mg C D) (FS : Fn K mg "shows" sShows ["house", "member", "ready"] fS fdS) (FI : Fn K mg "is_set" sIsSet ["source"] fI fdI) :
    FnOk P w K mg base CX0 3 f fd ["house", "number", "ready"] (spShowsSomething C D) := by
  have GS : FnOk P w K mg base CX0 2 fS fdS ["house", "member", "ready"] (spShows C D) := ok_shows FS T FI
  refine F.F.ok scShowsSomething (fun vs H Q E h => ?_) (fun cdv A outer s H vs Q E hr h => ?_)
  · obtain ⟨h, so, e, r, S, rfl, _⟩ := h
    rfl
  · obtain ⟨h, so, e, r, S, rfl, R, g, he, hS, k⟩ := h
    have hu := hu_of hr
    obtain ⟨dp, hp⟩ := R.ob
    refine ⟨_, pss_one (ps_ret (pe_callB (cr_any rfl) (by rfl) T.bany PyProof.Rows.boot_any (pa_cons (pe_lc (own := [("member", 3)]) (te := tOp rNe (tCall (spShows C D) [] E0 (tCons (tVar 0) (tCons (tVar 3) (tCons (tVar 2) tNil)))) (tC (.int 0))) rfl scShowsSomething.nd (pi_list (pe_dget hu (pe_fld (pv 0) rfl) (pv 1) (fun _ _ => rfl)))
      bkShowsSomething (fun _ _ _ _ _ => pg_name (i := 3) scShowsSomething.nd rfl (Or.inl rfl)) (fun _ _ _ _ _ => pts_nil)
      (fun _ _ _ _ _ => pe_cmpR op_ne (pe_call GS hr rfl FS.m FS.F.kp FS.b .nil pass0 (pa_cons (pv 0) (pa_cons (pv 3) (pa_cons (pv 2) pa_nil)))) pe_int (nomark _))) pa_nil))), ?_⟩
    refine ⟨_, rfl, h.p, D, dp, _, _, rfl, hp, T.clD, T.nSets, hf_sets _ _, _, rfl, h.sd, _, rfl, R.get_at g he, e.l, rfl, ⟨_, SqL.of (R.lst e he)⟩, fun B hB => ?_⟩
    refine lcl_list (K := K) (a := e.l) (xs := e.ms.map fun x => V.ref x.1) (fun i acc H' => Same H H' ∧ acc = ((e.ms.take i).map fun x => V.bl (showsR h.st (fun k => decide (k ∈ S)) x.2 != 0))) ⟨same_new hB, rfl⟩ (fun i acc H' _ _ q => q.1.seq (SqL.of (R.lst e he))) ?_ ?_
    · rintro i x acc H' hi hD hac ⟨sm, rfl⟩
      obtain ⟨y, c, rfl⟩ := ref_at hi
      obtain ⟨dx, hy⟩ := R.mem e he y (List.mem_of_getElem? c)
      have hil : i < e.ms.length := (List.getElem?_eq_some_iff.mp c).1
      have hfew := few_size g he
      refine ⟨rfl, _, rfl, _, rfl, _, rfl, h, so, y.1, dx, r, y.2, S, rfl, R.same sm, g.llen, sm _ _ hy, Same.rd sm hS, rfl, _, hD, by omega, _, upd_same, (by rw [List.length_append]; show _ + 1 ≤ _; omega), fun b o z => by rw [upd_ne (ne_of_none z hB)]; exact sm b o z, ?_⟩
      rw [List.take_add_one, c, List.map_append]
      refine congrArg (fun z => _ ++ [V.bl z]) ?_
      generalize showsR h.st (fun k => decide (k ∈ S)) y.2 = n
      by_cases q : n = 0
      · subst q; rfl
      · rw [bne_iff_ne.mpr q, decide_eq_false (show ¬ V.int (n : Int) = V.int 0 from fun z => q (by injection z with z; omega))]; rfl
    · rintro acc H' hD ⟨sm, rfl⟩
      rw [List.length_map, List.take_length] at hD
      refine ⟨B, e.ms.map fun x => (showsR h.st (fun k => decide (k ∈ S)) x.2 != 0), rfl, SqL.of (by rw [hD, List.map_map]; rfl), ?_⟩
      rw [any_map_bl, ← rdy_lay g he]
      exact k H' sm

/-! ### ready_sets -/
theorem nodup_le16 {S : List Nat} (n : S.Nodup) (h : ∀ k ∈ S, k < 16) : S.length ≤ 16 := by
  have := List.Nodup.length_le_of_subset n (fun k hk => List.mem_range.mpr (h k hk) : S ⊆ List.range 16)
  rw [List.length_range] at this
  exact this
/-- who is ready, as a dict's keys -/
def ReadyAt (h : Ho) (S : List Nat) : Prop := S.Nodup ∧ ∀ k, k ∈ S ↔ h.st.isReady k = true
def spReadySets (C D : Addr) : Sp := fun vs H Q _ => ∃ h : Ho, vs = [.ref h.p] ∧ HAt C D H h ∧ HG0 h ∧
  ∀ (r : Addr) (S : List Nat) (H' : Hp), H r = none → H' r = some (.dK (rkv S)) → ReadyAt h S → Same H H' → Q (.ref r) H'
theorem scReadySets : FnScope ["house", "ready", "growing", "found", "number"] ["house"] (defScope sReadySets) := ⟨rfl, rfl, rfl, by decide +kernel, rfl, by decide +kernel, by decide +kernel⟩
theorem rdy_key {h : Ho} (g : HG0 h) {R : Nat → Bool} {k : Nat} (q : rdy h.st R k = true) : ∃ e ∈ h.L, e.k = k := by
  cases c : lay h.L k with
  | some e => exact ⟨e, lay_some c⟩
  | none =>
    unfold rdy at q
    have e : h.st.members k = [] := by
      show (absSt h.lvs h.L).members k = []
      rw [members_abs g.good, c]; rfl
    rw [e] at q
    cases q
theorem ready_key {h : Ho} (g : HG0 h) {f k : Nat} (q : Si24.ready h.st f k = true) : ∃ e ∈ h.L, e.k = k := by
  cases f with
  | zero => rw [ready_zero] at q; cases q
  | succ f => rw [ready_succ] at q; exact rdy_key g q
/-- those that one round finds -/
def foundE (h : Ho) (S : List Nat) (L : List Ent) : List Nat := (L.filter fun e => !decide (e.k ∈ S) && rdy h.st (fun k => decide (k ∈ S)) e.k).map (·.k)
theorem foundE_take {h : Ho} {S : List Nat} {L : List Ent} {i : Nat} {e : Ent} (c : L[i]? = some e) : foundE h S (L.take (i + 1)) = if (!decide (e.k ∈ S) && rdy h.st (fun k => decide (k ∈ S)) e.k) = true then foundE h S (L.take i) ++ [e.k] else foundE h S (L.take i) := by
  unfold foundE
  rw [List.take_add_one, c, List.filter_append, List.map_append]
  show _ ++ List.map _ (List.filter _ [e]) = _
  by_cases q : (!decide (e.k ∈ S) && rdy h.st (fun k => decide (k ∈ S)) e.k) = true
  · rw [if_pos q, List.filter_cons, if_pos q, List.filter_nil]; rfl
  · rw [if_neg q, List.filter_cons, if_neg q, List.filter_nil, List.map_nil, List.append_nil]
theorem foundE_mem {h : Ho} {S : List Nat} {L : List Ent} {k : Nat} : k ∈ foundE h S L ↔ ∃ e ∈ L, e.k = k ∧ k ∉ S ∧ rdy h.st (fun k => decide (k ∈ S)) k = true := by
  unfold foundE
  rw [List.mem_map]
  constructor
  · rintro ⟨e, he, rfl⟩
    obtain ⟨h1, h2⟩ := List.mem_filter.mp he
    rw [Bool.and_eq_true] at h2
    exact ⟨e, h1, rfl, fun z => by rw [decide_eq_true z] at h2; exact absurd h2.1 (by decide), h2.2⟩
  · rintro ⟨e, he, rfl, h1, h2⟩
    refine ⟨e, List.mem_filter.mpr ⟨he, ?_⟩, rfl⟩
    rw [Bool.and_eq_true, decide_eq_false h1]
    exact ⟨rfl, h2⟩
theorem kvs_at {L : List Ent} {i : Nat} {k : Key} {v : V} (h : (kvsOf L)[i]? = some (k, v)) : ∃ e, L[i]? = some e ∧ k = Sum.inl (e.k : Int) ∧ v = V.ref e.l := by
  unfold kvsOf at h
  rw [List.getElem?_map] at h
  cases c : L[i]? with
  | none => rw [c] at h; cases h
  | some e =>
    rw [c] at h
    have := Option.some.inj h
    exact ⟨e, rfl, (congrArg Prod.fst this).symm, (congrArg Prod.snd this).symm⟩
theorem bkReadySets : BlkOk ["house", "ready", "growing", "found", "number"] (defScope sReadySets) (lcs [(".0", .local), ("number", .local), ("shows_something", .globalImplicit), ("house", .free), ("ready", .free)]) [("number", 4)] := ⟨rfl, by decide +kernel, by decide +kernel, by decide +kernel, by decide +kernel⟩
theorem ok_ready_sets {f fSS fS fI : Addr} {fd fdSS fdS fdI : FuncData} (F : Fn K mg "ready_sets" sReadySets ["house"] f fd) (T : Txt K mg C D) (FSS : Fn K mg "shows_something" sShowsSomething ["house", "number", "ready"] fSS fdSS)
    (FS : Fn K mg "shows" sShows ["house", "member", "ready"] fS fdS) (FI : Fn K mg "is_set" sIsSet ["source"] fI fdI) : FnOk P w K mg base CX0 4 f fd ["house"] (spReadySets C D) := by
  have GSS : FnOk P w K mg base CX0 3 fSS fdSS ["house", "number", "ready"] (spShowsSomething C D) := ok_shows_something FSS T FS FI
  refine F.F.ok scReadySets (fun vs H Q E h => ?_) (fun cdv A outer s H vs Q E hr h => ?_)
  · obtain ⟨h, rfl, _⟩ := h
    rfl
  · obtain ⟨h, rfl, R, g, k⟩ := h
    have hu := hu_of hr
    refine ⟨_, pss_cons (ps_set (i := 1) scReadySets.nd rfl (Or.inr rfl) pe_dnewK) (pss_cons (ps_set (i := 2) scReadySets.nd rfl (Or.inl rfl) pe_bl)
      (pss_cons (ps_while PassesOwn.never (pt_val (pv 2))
        (pss_cons (ps_lock (ps_setLc (i := 3) (own := [("number", 4)]) (tt := tAnd (tB (tDNotIn (tVar 4) (tVar 1))) (tB (tCall (spShowsSomething C D) [] E0 (tCons (tVar 0) (tCons (tVar 4) (tCons (tVar 1) tNil)))))) (te := tVar 4) rfl scReadySets.nd rfl rfl rfl (pi_keys (pe_fld (pv 0) rfl)) bkReadySets
            (fun _ _ _ _ _ => pg_name (i := 4) scReadySets.nd rfl (Or.inl rfl))
            (fun _ _ _ _ _ => pts_one (PW.pt (pw_and (pt_cmp (pc_dnotin hu (pv 4) (pv 1)) (by with_unfolding_all rfl)) (pw_and1 (pt_val (pe_call GSS hr rfl FSS.m FSS.F.kp FSS.b .nil pass0 (pa_cons (pv 0) (pa_cons (pv 4) (pa_cons (pv 1) pa_nil)))))))))
            (fun _ _ _ _ _ => pv 4)))
        (pss_cons (ps_for PassesOwn.never rfl (pi_list (pv 3)) (pg_name (i := 4) scReadySets.nd rfl (Or.inl rfl)) (pss_one (ps_dput hu (pv 1) (pv 4) pe_bl rfl)))
        (pss_one (ps_set (i := 2) scReadySets.nd rfl (Or.inl rfl) (pe_cmpR op_gt (pe_callB call_len_seq (by rfl) T.blen PySem.boot_len (pa_cons (pv 3) pa_nil)) pe_int (nomark _)))))))
      (pss_one (ps_ret (pv 1))))), ?_⟩
    intro rd hrd
    have s0 : Same H (upd H rd (.dK [])) := same_new hrd
    refine ⟨fun m σ H' => ∃ (S : List Nat) (gr : Bool) (v3 v4 : Option V) (r : Nat), σ = [some (.ref h.p), some (.ref rd), some (.bl gr), v3, v4] ∧ Same H H' ∧ H' rd = some (.dK (rkv S)) ∧ S.Nodup ∧ (∀ k, k ∈ S ↔ Si24.ready h.st r k = true) ∧
        (gr = false → ∀ k, Si24.ready h.st (r + 1) k = Si24.ready h.st r k) ∧ m = 2 * (16 - S.length) + (if gr = true then 1 else 0),
      ⟨_, [], true, none, none, 0, rfl, s0, upd_same, List.nodup_nil, fun k => (by rw [ready_zero]; simp), fun z => (by cases z), rfl⟩, ?_⟩
    rintro m σ H' ⟨S, gr, v3, v4, r, rfl, sm, hS, nS, iS, iG, rfl⟩
    refine ⟨_, rfl, _, rfl, ?_⟩
    cases gr with
    | false =>
      refine iteF ⟨_, rfl, ?_⟩
      exact k rd S H' hrd hS ⟨nS, fun j => by rw [iS, ready_final (st_len h) (fun j _ => iG rfl j)]⟩ sm
    | true =>
      have R1 := R.same sm
      have S16 : ∀ j ∈ S, j < 16 := fun j hj => by
        obtain ⟨e, he, rfl⟩ := ready_key g ((iS j).mp hj)
        exact g.good.lt e he
      have eR : (fun j => decide (j ∈ S)) = Si24.ready h.st r := by
        funext j
        exact Bool.eq_iff_iff.mpr (by rw [decide_eq_true_eq]; exact iS j)
      have nrd : rd ≠ h.sd := (ne_of_none R.sds hrd).symm
      refine iteT ⟨fun σ' H2 => ∃ (S' : List Nat) (gr : Bool) (v3 v4 : Option V) (r : Nat), σ' = [some (.ref h.p), some (.ref rd), some (.bl gr), v3, v4] ∧ Same H H2 ∧ H2 rd = some (.dK (rkv S')) ∧ S'.Nodup ∧ (∀ k, k ∈ S' ↔ Si24.ready h.st r k = true) ∧
        (gr = false → ∀ k, Si24.ready h.st (r + 1) k = Si24.ready h.st r k) ∧ 2 * (16 - S'.length) + (if gr = true then 1 else 0) < 2 * (16 - S.length) + 1, fun σ' H2 ⟨S', gr, v3, v4, r, h1, h2, h3, h4, h5, h6, h7⟩ => ⟨_, h7, S', gr, v3, v4, r, h1, h2, h3, h4, h5, h6, rfl⟩, ?_⟩
      refine ⟨h.sd, .dK (kvsOf h.L), R1.sds, True.intro, fun od => ?_⟩
      have RL := R1.lock od
      obtain ⟨dp, hp⟩ := RL.ob
      refine ⟨_, rfl, h.p, D, dp, _, _, rfl, hp, T.clD, T.nSets, hf_sets _ _, h.sd, od, rfl, .inl ⟨_, upd_same, fun B hB => ?_⟩⟩
      have hSf : upd H' h.sd (.frz od (.dK (kvsOf h.L))) rd = some (.dK (rkv S)) := by rw [upd_ne nrd]; exact hS
      refine lcl_keys (d := h.sd) (o := od) (kvs := kvsOf h.L) (fun i acc H2 => Same (upd H' h.sd (.frz od (.dK (kvsOf h.L)))) H2 ∧ acc = ((foundE h S (h.L.take i)).map fun n : Nat => V.int n)) ⟨same_new hB, rfl⟩ (fun i acc H2 _ _ q => q.1 _ _ upd_same) ?_ ?_
      · rintro i kk v acc H2 hi hD hac ⟨s2, rfl⟩
        obtain ⟨e, c, rfl, rfl⟩ := kvs_at hi
        have he := List.mem_of_getElem? c
        have hil : i < (kvsOf h.L).length := (List.getElem?_eq_some_iff.mp hi).1
        have hkz := kvs_size g
        have ws := foundE_take (h := h) (S := S) c
        have hv := valV_rkv S e.k
        refine ⟨rfl, _, rfl, _, rfl, rd, _, rfl, .inl ⟨_, Sum.inl (e.k : Int), .inl (s2 _ _ hSf), rfl, rfl⟩, _, rfl, ?_⟩
        rw [hv]
        by_cases q : e.k ∈ S
        · rw [decide_eq_true q]
          rw [decide_eq_true q, if_neg (fun z => by cases z)] at ws
          exact iteF (iteF ⟨_, hD, Nat.le_succ_of_le hac, s2, by rw [ws]⟩)
        · rw [decide_eq_false q]
          rw [decide_eq_false q] at ws
          refine iteT ⟨_, rfl, _, rfl, _, rfl, h, _, e, rd, S, rfl, RL.same s2, g, he, .inl (s2 _ _ hSf), fun H3 s3 => ⟨_, rfl, ?_⟩⟩
          cases z : rdy h.st (fun k => decide (k ∈ S)) e.k with
          | false =>
            rw [z, if_neg (by decide)] at ws
            exact iteF ⟨_, s3 _ _ hD, Nat.le_succ_of_le hac, s2.trans s3, by rw [ws]⟩
          | true =>
            rw [z, if_pos (by decide)] at ws
            refine iteT ⟨_, rfl, _, s3 _ _ hD, by omega, _, upd_same, (by rw [List.length_append]; show _ + 1 ≤ _; omega), fun b o y => by rw [upd_ne (ne_of_none y hB)]; exact s3 _ _ (s2 b o y), ?_⟩
            rw [ws, List.map_append]; rfl
      · rintro acc H2 hD ⟨s2, rfl⟩
        have ekl : (kvsOf h.L).length = h.L.length := List.length_map _
        rw [ekl, List.take_length] at hD
        have nB : B ≠ h.sd := (ne_of_none upd_same hB).symm
        refine ⟨s2 _ _ upd_same, ?_⟩
        -- the dict unlocked
        have s3 : Same H (upd H2 h.sd (.dK (kvsOf h.L))) := fun b o y => by
          by_cases z : b = h.sd
          · subst z
            rw [R.sds] at y
            rw [upd_same]
            exact y
          · rw [upd_ne z]
            exact s2 _ _ (by rw [upd_ne z]; exact sm b o y)
        have hB3 : (upd H2 h.sd (.dK (kvsOf h.L))) B = some (.lst ((foundE h S h.L).map fun n : Nat => V.int n)) := by rw [upd_ne nB]; exact hD
        have hS3 : (upd H2 h.sd (.dK (kvsOf h.L))) rd = some (.dK (rkv S)) := by rw [upd_ne nrd]; exact s2 _ _ hSf
        generalize upd H2 h.sd (.dK (kvsOf h.L)) = H3 at s3 hB3 hS3 ⊢
        have fnd : (foundE h S h.L).Nodup := List.Sublist.nodup (List.Sublist.map _ List.filter_sublist) g.good.nd
        have fS : ∀ x ∈ foundE h S h.L, x ∉ S := fun x hx => by
          obtain ⟨_, _, _, z, _⟩ := foundE_mem.mp hx
          exact z
        have f16 : ∀ x ∈ foundE h S h.L, x < 16 := fun x hx => by
          obtain ⟨e, he, z, _, _⟩ := foundE_mem.mp hx
          exact z ▸ g.good.lt e he
        have nS' : (S ++ foundE h S h.L).Nodup := List.nodup_append.mpr ⟨nS, fnd, fun a ha b hb z => fS b hb (z ▸ ha)⟩
        have l16 : (S ++ foundE h S h.L).length ≤ 16 := nodup_le16 nS' fun x hx => (List.mem_append.mp hx).elim (S16 x) (f16 x)
        rw [List.length_append] at l16
        have s16 : 16 < sizeLine := by decide
        refine ⟨_, rfl, B, rfl, ⟨_, SqL.of hB3⟩, for_list (K := K) (a := B) (xs := (foundE h S h.L).map fun n : Nat => V.int n) (fun i σ H4 => ∃ v4, σ = [some (.ref h.p), some (.ref rd), some (.bl true), some (.ref B), v4] ∧ H4 rd = some (.dK (rkv (S ++ (foundE h S h.L).take i))) ∧ ∀ b o, H3 b = some o → b ≠ rd → H4 b = some o)
          ⟨_, rfl, by rw [List.take_zero, List.append_nil]; exact hS3, fun b o y _ => y⟩ (fun i σ H4 _ ⟨_, _, _, y⟩ => SqL.of (y _ _ hB3 (ne_of hB3 hS3 (by intro z; cases z)))) ?_ ?_⟩
        · rintro i x σ H4 hi ⟨v4', rfl, h4, kp4⟩
          rw [List.getElem?_map] at hi
          cases c : (foundE h S h.L)[i]? with
          | none => rw [c] at hi; cases hi
          | some n =>
            rw [c] at hi
            obtain rfl : V.int (n : Int) = x := Option.some.inj hi
            have hil : i < (foundE h S h.L).length := (List.getElem?_eq_some_iff.mp c).1
            have nn : n ∉ S ++ (foundE h S h.L).take i := fun z => by
              rcases List.mem_append.mp z with z | z
              · exact fS n (List.mem_of_getElem? c) z
              · obtain ⟨j, hj, ej⟩ := List.mem_iff_getElem.mp z
                rw [List.length_take] at hj
                rw [List.getElem_take] at ej
                have c2 : (foundE h S h.L)[j]? = some n := by rw [List.getElem?_eq_getElem (by omega), ej]
                have := nd_ix fnd c2 c
                omega
            refine ⟨_, rfl, _, rfl, rd, _, rfl, DPut.k (k := Sum.inl (n : Int)) h4 (by show (List.map _ _).length < _; rw [List.length_map, List.length_append, List.length_take]; omega), _, rfl, ?_, fun b o y z => by rw [upd_ne z]; exact kp4 b o y z⟩
            rw [upd_same, putK_rkv nn, List.take_add_one, c, List.append_assoc]; rfl
        · rintro σ H4 ⟨v4', rfl, h4, kp4⟩
          rw [List.length_map, List.take_length] at h4
          have sm4 : Same H H4 := fun b o y => kp4 b o (s3 b o y) (ne_of_none y hrd)
          have hB4 := kp4 _ _ hB3 (ne_of hB3 hS3 (by intro z; cases z))
          have iS' : ∀ j, j ∈ S ++ foundE h S h.L ↔ Si24.ready h.st (r + 1) j = true := fun j => by
            rw [List.mem_append, foundE_mem]
            constructor
            · rintro (z | ⟨e, he, rfl, z1, z2⟩)
              · exact ready_mono _ _ _ ((iS j).mp z)
              · rw [ready_succ, ← eR]; exact z2
            · intro z
              by_cases q : j ∈ S
              · exact .inl q
              · obtain ⟨e, he, rfl⟩ := ready_key g z
                rw [ready_succ, ← eR] at z
                exact .inr ⟨e, he, rfl, q, z⟩
          refine ⟨_, rfl, B, _, rfl, .inl (SqL.of hB4), _, _, rfl, rfl, ?_⟩
          refine ⟨S ++ foundE h S h.L, _, _, _, r + 1, rfl, sm4, h4, nS', iS', fun z j => ?_, ?_⟩
          · have z' : foundE h S h.L = [] := by
              have := of_decide_eq_false z
              rw [List.length_map] at this
              exact List.length_eq_zero_iff.mp (by omega)
            have e1 : Si24.ready h.st (r + 1) = Si24.ready h.st r := by
              funext j
              refine Bool.eq_iff_iff.mpr ?_
              rw [← iS', ← iS, z', List.append_nil]
            rw [ready_succ, e1, ← ready_succ, e1]
          · rw [List.length_append, List.length_map]
            by_cases z : (foundE h S h.L).length = 0
            · rw [decide_eq_false (by omega), if_neg (by decide)]; omega
            · rw [decide_eq_true (by omega), if_pos rfl]; omega
end
end Rs
namespace Rs
open PySem L2
section
variable {P : Program} {w : World} {K : PySem.W.Frag} {mg : Str → Option Value} {base : Heap} {C D : Addr}
def spHasInIt (C D : Addr) : Sp := fun vs H Q _ => ∃ (h : Ho) (so : HO) (e e2 : Ent), vs = [.ref h.p, .int e.k, .int e2.k] ∧ HRd C D H h so ∧ HGood h ∧ e ∈ h.L ∧ e2 ∈ h.L ∧ e.k ≠ e2.k ∧
  ∀ H', Same H H' → Q (.bl (Si24.inside h.st 16 e.k e2.k)) H'
theorem scHasInIt : FnScope ["house", "outer", "inner", "seen", "to_look_into", "looked_into", "number"] ["house", "outer", "inner"] (defScope sHasInIt) := ⟨rfl, rfl, rfl, by decide +kernel, rfl, by decide +kernel, by decide +kernel⟩
theorem kids_key {h : Ho} (g : HGood h) {e : Ent} (he : e ∈ h.L) {y : Nat} (hy : y ∈ kidsE e.ms) : ∃ e' ∈ h.L, e'.k = y := by
  obtain ⟨x, hx, rfl⟩ := List.mem_map.mp hy
  obtain ⟨h1, h2⟩ := List.mem_filter.mp hx
  have h2' := of_decide_eq_true h2
  obtain ⟨e', he', q⟩ := g.kid e he x h1 h2'
  exact ⟨e', he', by omega⟩
theorem ints_at {ns : List Nat} {i : Nat} {x : V} (h : (ns.map fun n : Nat => V.int n)[i]? = some x) : ∃ n, ns[i]? = some n ∧ x = V.int n := by
  rw [List.getElem?_map] at h
  cases c : ns[i]? with
  | none => rw [c] at h; cases h
  | some y =>
    rw [c] at h
    exact ⟨y, rfl, (Option.some.inj h).symm⟩
theorem ok_has_in_it {f fW fI : Addr} {fd fdW fdI : FuncData} (F : Fn K mg "has_in_it" sHasInIt ["house", "outer", "inner"] f fd) (T : Txt K mg C D) (FW : Fn K mg "sets_within" sSetsWithin ["house", "number"] fW fdW) (FI : Fn K mg "is_set" sIsSet ["source"] fI fdI) :
    FnOk P w K mg base CX0 3 f fd ["house", "outer", "inner"] (spHasInIt C D) := by
  have GW : FnOk P w K mg base CX0 2 fW fdW ["house", "number"] (spSetsWithin C D) := ok_sets_within FW T FI
  refine F.F.ok scHasInIt (fun vs H Q E h => ?_) (fun cdv A outer s H vs Q E hr h => ?_)
  · obtain ⟨h, so, e, e2, rfl, _⟩ := h
    rfl
  · obtain ⟨h, so, e, e2, rfl, R, g, he, he2, hne, k⟩ := h
    have hu := hu_of hr
    refine ⟨_, pss_cons (ps_set (i := 3) scHasInIt.nd rfl (Or.inl rfl) pe_dnewK) (pss_cons (ps_set (i := 4) scHasInIt.nd rfl (Or.inl rfl) (pe_lst (pa_cons (pv 1) pa_nil)))
      (pss_cons (ps_while PassesOwn.never (pt_truth (pv 4) (fun _ => rfl))
        (pss_cons (ps_set (i := 5) scHasInIt.nd rfl (Or.inl rfl) (pe_bm0 PySem.F.plainAttrs_list PySem.F.slot_list_pop PySem.F.type_list_pop mt_pop (pv 4)))
        (pss_one (ps_for PassesOwn.never rfl (pi_list (pe_call GW hr rfl FW.m FW.F.kp FW.b .nil pass0 (pa_cons (pv 0) (pa_cons (pv 5) pa_nil)))) (pg_name (i := 6) scHasInIt.nd rfl (Or.inl rfl))
          (pss_one (ps_if (pt_cmp (pc_dnotin hu (pv 6) (pv 3)) (by with_unfolding_all rfl)) (pss_cons (ps_dput hu (pv 3) (pv 6) pe_bl rfl)
            (pss_one (ps_expr (pe_bm PySem.F.plainAttrs_list PySem.F.slot_list_append PySem.F.type_list_append mt_append (pv 4) (pa_cons (pv 6) pa_nil))))) pss_nil))))))
      (pss_one (ps_ret (pe_cmp (pc_din hu (pv 2) (pv 3)) (by with_unfolding_all rfl)))))), ?_⟩
    intro sn hsn
    refine ⟨_, rfl, (by show 1 ≤ sizeLine; decide), fun tk htk => ?_⟩
    obtain ⟨htk0, hts⟩ := upd_none htk
    have s0 : Same H (upd (upd H sn (.dK [])) tk (.lst [.int e.k])) := (same_new hsn).trans (same_new htk)
    -- S: seen; T: to look into
    let Good2 : List Nat → List Nat → Prop := fun S Tk => S.Nodup ∧ (∀ x ∈ S, ∃ x' ∈ h.L, x'.k = x) ∧ (∀ x ∈ S, ∃ n, Si24.inside h.st n e.k x = true) ∧ (∀ x ∈ Tk, x = e.k ∨ x ∈ S) ∧
      (∀ x, x = e.k ∨ x ∈ S → x ∈ Tk ∨ ∀ y ∈ kids h.st x, y ∈ S) ∧ Tk.length ≤ S.length + 1
    have len16 : ∀ {S Tk}, Good2 S Tk → S.length ≤ 16 := fun {S Tk} q => nodup_le16 q.1 fun x hx => by
      obtain ⟨x', hx', rfl⟩ := q.2.1 x hx
      exact g.good.lt x' hx'
    refine ⟨fun m σ H' => ∃ (S Tk : List Nat) (v5 v6 : Option V), σ = [some (.ref h.p), some (.int e.k), some (.int e2.k), some (.ref sn), some (.ref tk), v5, v6] ∧ Same H H' ∧ H' sn = some (.dK (rkv S)) ∧ H' tk = some (.lst (Tk.map fun n : Nat => V.int n)) ∧
        Good2 S Tk ∧ m = 2 * (16 - S.length) + Tk.length,
      ⟨_, [], [e.k], none, none, rfl, s0, by rw [upd_ne hts.symm]; exact upd_same, upd_same, ⟨List.nodup_nil, fun x hx => (by cases hx), fun x hx => (by cases hx), fun x hx => .inl (by simpa using hx), fun x hx => .inl (by
        rcases hx with z | z
        · rw [z]; exact List.mem_singleton.mpr rfl
        · cases z), Nat.le_refl _⟩, rfl⟩, ?_⟩
    rintro m σ H' ⟨S, Tk, v5, v6, rfl, sm, hS, hT, G2, rfl⟩
    refine ⟨_, rfl, _, .inl ⟨_, SqL.of hT, rfl⟩, ?_⟩
    rcases List.eq_nil_or_concat Tk with rfl | ⟨Tk', top, rfl⟩
    · -- nothing more
      refine iteF ⟨_, rfl, _, rfl, sn, _, rfl, .inl ⟨_, Sum.inl (e2.k : Int), .inl hS, rfl, rfl⟩, ?_⟩
      rw [valV_rkv, ← inside_closed (g.good.lt e2 he2) (st_len h) hne G2.2.2.1 fun x hx => (G2.2.2.2.2.1 x hx).resolve_left (by intro z; cases z)]
      exact k H' sm
    · have htru : (!((Tk' ++ [top]).map fun n : Nat => V.int n).isEmpty) = true := by cases Tk' <;> rfl
      rw [List.concat_eq_append] at *
      rw [htru]
      have tke : ∃ et ∈ h.L, et.k = top := by
        rcases G2.2.2.2.1 top (List.mem_append_right _ (List.mem_singleton.mpr rfl)) with z | z
        · exact ⟨e, he, z.symm⟩
        · exact G2.2.1 top z
      obtain ⟨et, het, rfl⟩ := tke
      have l16 := len16 G2
      refine iteT ⟨fun σ' H2 => ∃ (S2 T2 : List Nat) (v5 v6 : Option V), σ' = [some (.ref h.p), some (.int e.k), some (.int e2.k), some (.ref sn), some (.ref tk), v5, v6] ∧ Same H H2 ∧ H2 sn = some (.dK (rkv S2)) ∧ H2 tk = some (.lst (T2.map fun n : Nat => V.int n)) ∧
        Good2 S2 T2 ∧ 2 * (16 - S2.length) + T2.length < 2 * (16 - S.length) + (Tk' ++ [et.k]).length, fun σ' H2 ⟨S2, T2, v5, v6, h1, h2, h3, h4, h5, h6⟩ => ⟨_, h6, S2, T2, v5, v6, h1, h2, h3, h4, h5, rfl⟩, ?_⟩
      -- looked_into = to_look_into.pop()
      have epop : ((Tk' ++ [et.k]).map fun n : Nat => V.int n).dropLast = Tk'.map fun n : Nat => V.int n := by rw [List.map_append]; exact List.dropLast_concat
      have elast : ((Tk' ++ [et.k]).map fun n : Nat => V.int n)[((Tk' ++ [et.k]).map fun n : Nat => V.int n).length - 1]? = some (V.int et.k) := by
        rw [List.map_append, List.length_append, List.length_map]
        show (List.map _ Tk' ++ [V.int (et.k : Int)])[Tk'.length + 1 - 1]? = _
        rw [Nat.add_sub_cancel, List.getElem?_append_right (by rw [List.length_map]; exact Nat.le_refl _), List.length_map, Nat.sub_self]
        rfl
      refine ⟨_, rfl, .inl ⟨rfl, _, SqL.of hT⟩, tk, _, _, rfl, rfl, hT, elast, ?_⟩
      rw [epop]
      have ntk : ∀ b o, H b = some o → b ≠ tk := fun b o y => ne_of_none y htk0
      have nsn : ∀ b o, H b = some o → b ≠ sn := fun b o y => ne_of_none y hsn
      have sm1 : Same H (upd H' tk (.lst (Tk'.map fun n : Nat => V.int n))) := fun b o y => by rw [upd_ne (ntk b o y)]; exact sm b o y
      have hS1 : (upd H' tk (.lst (Tk'.map fun n : Nat => V.int n))) sn = some (.dK (rkv S)) := by rw [upd_ne hts.symm]; exact hS
      have hT1 : (upd H' tk (.lst (Tk'.map fun n : Nat => V.int n))) tk = some (.lst (Tk'.map fun n : Nat => V.int n)) := upd_same
      generalize upd H' tk (.lst (Tk'.map fun n : Nat => V.int n)) = H1 at sm1 hS1 hT1 ⊢
      -- for number in sets_within(house, looked_into)
      refine ⟨_, rfl, _, rfl, h, so, et, rfl, R.same sm1, g.toHG0, het, fun B H2 hB hBl s2 => ?_⟩
      refine ⟨B, rfl, ⟨_, SqL.of hBl⟩, for_list (K := K) (a := B) (xs := (kidsE et.ms).map fun n : Nat => V.int n) (fun i σ H3 => ∃ (S3 add : List Nat) (v6 : Option V), σ = [some (.ref h.p), some (.int e.k), some (.int e2.k), some (.ref sn), some (.ref tk), some (.int et.k), v6] ∧
          (∀ b o, H2 b = some o → b ≠ sn → b ≠ tk → H3 b = some o) ∧ H3 sn = some (.dK (rkv S3)) ∧ H3 tk = some (.lst ((Tk' ++ add).map fun n : Nat => V.int n)) ∧ S3 = S ++ add ∧ S3.Nodup ∧ (∀ x ∈ add, x ∈ kidsE et.ms) ∧ ∀ x ∈ (kidsE et.ms).take i, x ∈ S3)
        ⟨S, [], _, rfl, fun b o y _ _ => y, s2 _ _ hS1, by rw [List.append_nil]; exact s2 _ _ hT1, by rw [List.append_nil], G2.1, fun x hx => (by cases hx), fun x hx => (by cases hx)⟩
        (fun i σ H3 _ ⟨_, _, _, _, y, _⟩ => SqL.of (y _ _ hBl (ne_of_none hS1 hB).symm (ne_of_none hT1 hB).symm)) ?_ ?_⟩
      · rintro i x σ H3 hi ⟨S3, add, v6, rfl, kp, h3s, h3t, rfl, nS3, adK, tkS⟩
        obtain ⟨n, c, rfl⟩ := ints_at hi
        have add16 : (S ++ add).length ≤ 16 := nodup_le16 nS3 fun x hx => by
          rcases List.mem_append.mp hx with z | z
          · obtain ⟨x', hx', rfl⟩ := G2.2.1 x z
            exact g.good.lt x' hx'
          · obtain ⟨x', hx', rfl⟩ := kids_key g het (adK x z)
            exact g.good.lt x' hx'
        have s16 : 64 < sizeLine := by decide
        refine ⟨_, rfl, _, rfl, sn, _, rfl, .inl ⟨_, Sum.inl (n : Int), .inl h3s, rfl, rfl⟩, _, rfl, ?_⟩
        rw [valV_rkv]
        have tk1 : ∀ {S' : List Nat}, (∀ x ∈ S ++ add, x ∈ S') → n ∈ S' → ∀ x ∈ (kidsE et.ms).take (i + 1), x ∈ S' := fun {S'} hs hn x hx => by
          rw [List.take_add_one, c] at hx
          rcases List.mem_append.mp hx with z | z
          · exact hs x (tkS x z)
          · have z' : x = n := by simpa using z
            rw [z']; exact hn
        by_cases q : n ∈ S ++ add
        · rw [decide_eq_true q]
          exact iteF ⟨S ++ add, add, _, rfl, kp, h3s, h3t, rfl, nS3, adK, tk1 (fun x hx => hx) q⟩
        · rw [decide_eq_false q]
          have hTl : Tk'.length ≤ 17 := by
            have := G2.2.2.2.2.2
            rw [List.length_append] at this
            have l := len16 G2
            have : Tk'.length + 1 ≤ S.length + 1 := this
            omega
          refine iteT ⟨_, rfl, _, rfl, sn, _, rfl, DPut.k (k := Sum.inl (n : Int)) h3s (by show (List.map _ _).length < _; rw [List.length_map]; omega), ?_⟩
          have ht' : (upd H3 sn (.dK (putK (rkv (S ++ add)) (Sum.inl (n : Int)) (V.bl true)))) tk = some (.lst ((Tk' ++ add).map fun n : Nat => V.int n)) := by rw [upd_ne hts]; exact h3t
          refine ⟨_, rfl, .inl ⟨rfl, _, SqL.of ht'⟩, _, rfl, tk, _, _, rfl, rfl, ht', (by rw [List.length_map, List.length_append]; rw [List.length_append] at add16; omega), ?_⟩
          refine ⟨S ++ (add ++ [n]), add ++ [n], _, rfl, fun b o y z1 z2 => by rw [upd_ne z2, upd_ne z1]; exact kp b o y z1 z2, ?_, ?_, rfl, ?_, ?_, ?_⟩
          · rw [upd_ne hts.symm, upd_same, putK_rkv q, List.append_assoc]
          · rw [upd_same]; simp only [List.map_append, List.append_assoc, List.map_cons, List.map_nil]
          · rw [← List.append_assoc]; exact nd_snoc nS3 q
          · intro x hx
            rcases List.mem_append.mp hx with z | z
            · exact adK x z
            · have z' : x = n := by simpa using z
              rw [z']; exact List.mem_of_getElem? c
          · exact tk1 (fun x hx => by rw [← List.append_assoc]; exact List.mem_append_left _ hx) (List.mem_append_right _ (List.mem_append_right _ (List.mem_singleton.mpr rfl)))
      · rintro σ H3 ⟨S3, add, v6, rfl, kp, h3s, h3t, rfl, nS3, adK, tkS⟩
        rw [List.length_map, List.take_length] at tkS
        have ekids : kids h.st et.k = kidsE et.ms := kids_lay g.good h.lvs het
        have keys3 : ∀ x ∈ S ++ add, ∃ x' ∈ h.L, x'.k = x := fun x hx => by
          rcases List.mem_append.mp hx with z | z
          · exact G2.2.1 x z
          · exact kids_key g het (adK x z)
        have l3 : (S ++ add).length ≤ 16 := nodup_le16 nS3 fun x hx => by
          obtain ⟨x', hx', rfl⟩ := keys3 x hx
          exact g.good.lt x' hx'
        have rt : ∃ n, Si24.inside h.st n e.k et.k = true := by
          rcases G2.2.2.2.1 et.k (List.mem_append_right _ (List.mem_singleton.mpr rfl)) with z | z
          · exact ⟨1, by rw [z]; exact inside_self _ _ _⟩
          · exact G2.2.2.1 et.k z
        refine ⟨S ++ add, Tk' ++ add, _, _, rfl, fun b o y => kp b o (s2 _ _ (sm1 b o y)) (nsn b o y) (ntk b o y), h3s, h3t, ⟨nS3, keys3, fun x hx => ?_, fun x hx => ?_, fun x hx => ?_, ?_⟩, ?_⟩
        · rcases List.mem_append.mp hx with z | z
          · exact G2.2.2.1 x z
          · obtain ⟨n, hn⟩ := rt
            exact ⟨n + 1, inside_kid (by rw [ekids]; exact adK x z) n e.k hn⟩
        · rcases List.mem_append.mp hx with z | z
          · rcases G2.2.2.2.1 x (List.mem_append_left _ z) with y | y
            · exact .inl y
            · exact .inr (List.mem_append_left _ y)
          · exact .inr (List.mem_append_right _ z)
        · have up : x = e.k ∨ x ∈ S → x ∈ Tk' ++ add ∨ ∀ y ∈ kids h.st x, y ∈ S ++ add := fun hx => by
            rcases G2.2.2.2.2.1 x hx with z | z
            · rcases List.mem_append.mp z with z | z
              · exact .inl (List.mem_append_left _ z)
              · have z' : x = et.k := by simpa using z
                rw [z', ekids]
                exact .inr tkS
            · exact .inr fun y hy => List.mem_append_left _ (z y hy)
          rcases hx with z | z
          · exact up (.inl z)
          · rcases List.mem_append.mp z with z | z
            · exact up (.inr z)
            · exact .inl (List.mem_append_right _ z)
        · have := G2.2.2.2.2.2
          rw [List.length_append] at this
          have : Tk'.length + 1 ≤ S.length + 1 := this
          rw [List.length_append, List.length_append]
          omega
        · rw [List.length_append] at l3
          rw [List.length_append, List.length_append, List.length_append]
          show 2 * (16 - (S.length + add.length)) + (Tk'.length + add.length) < 2 * (16 - S.length) + (Tk'.length + 1)
          omega
end
end Rs
namespace Rs
open PySem L2
abbrev sSourceFits : Stmt := top 42
abbrev sSourceOrSetFits : Stmt := top 43
abbrev sBitsFit : Stmt := top 44
abbrev sMemberFits : Stmt := top 45
abbrev sBegins : Stmt := top 46
abbrev sOpens : Stmt := top 47
abbrev sShut : Stmt := top 48
abbrev sSetRefusal : Stmt := top 49
abbrev sAddRefusal : Stmt := top 50
abbrev sAdd : Stmt := top 51
abbrev sChangeRefusal : Stmt := top 52
abbrev sChange : Stmt := top 53
abbrev sDrop : Stmt := top 54
abbrev sLevel : Stmt := top 55
abbrev sPoke : Stmt := top 56
abbrev sGone : Stmt := top 57
abbrev sHadTurn : Stmt := top 58
abbrev sWait : Stmt := top 59
abbrev sReady : Stmt := top 60
abbrev sTold : Stmt := top 61
abbrev sCarryUntold : Stmt := top 62
abbrev sCarryOut : Stmt := top 63
abbrev sAnswer : Stmt := top 64
abbrev sAnswers : Stmt := top 65
structure Txt2 (K : PySem.W.Frag) (mg : Str → Option Value) : Prop where
  gRANGE : ∃ t, mg "NOT_IN_RANGE" = some (.int (-1) t)
  gTHERE : ∃ t, mg "NOT_THERE" = some (.int (-2) t)
  gALLOWED : ∃ t, mg "SET_NOT_ALLOWED" = some (.int (-3) t)
  gALREADY : ∃ t, mg "MEMBER_ALREADY" = some (.int (-4) t)
  gFULL : ∃ t, mg "FULL" = some (.int (-5) t)
  gBITS : ∃ t, mg "MOST_BITS" = some (.int 15 t)
  gMODE : ∃ t, mg "MOST_MODE" = some (.int 2 t)
  gMEMBERS : ∃ t, mg "MOST_MEMBERS" = some (.int 64 t)
  gWAITED : ∃ t, mg "MOST_WAITED_FOR" = some (.int 64 t)
  brange : mg "range" = none
  blist : mg "list" = none
section
variable {P : Program} {w : World} {K : PySem.W.Frag} {mg : Str → Option Value} {base : Heap} {C D : Addr}
/-! ### what a call has done -/
def Fram (H : Hp) (h : Ho) (H' : Hp) (h' : Ho) : Prop := (∀ b o, H b = some o → ¬ Own h b → H' b = some o) ∧ ∀ b, Own h' b → Own h b ∨ H b = none
def Done (C D : Addr) (H : Hp) (h : Ho) (c : Si24.Call) (Q : VK) : Prop := ∀ (h' : Ho) (H' : Hp), h'.p = h.p → HAt C D H' h' → HGood h' → h'.st = (Si24.plain h.st c).1 → Fram H h H' h' → Q (.int (Si24.plain h.st c).2.code) H'
theorem Done.to {H : Hp} {h : Ho} {c : Si24.Call} {Q : VK} (d : Done C D H h c Q) {h' : Ho} {z : Int} (q : Si24.plain h.st c = (h'.st, Si24.say z)) {H' : Hp} (ep : h'.p = h.p) (R : HAt C D H' h') (g : HGood h') (fr : Fram H h H' h') : Q (.int z) H' := by
  have := d h' H' ep R g (by rw [q]) fr
  rw [q] at this
  exact this
theorem Done.no {H : Hp} {h : Ho} {c : Si24.Call} {Q : VK} (d : Done C D H h c Q) {z : Int} (q : Si24.plain h.st c = (h.st, Si24.say z)) {H' : Hp} (R : HAt C D H h) (g : HGood h) (sm : Same H H') : Q (.int z) H' :=
  d.to q rfl (R.same sm) g ⟨fun b o e _ => sm b o e, fun b o => .inl o⟩
theorem own_put {h : Ho} {e : Ent} {l : Addr} {ms : List (Addr × Si24.Member)} {b : Addr} (o : Own { h with L := putE h.L e.k l ms } b) : Own h b ∨ b = l ∨ ∃ x ∈ ms, b = x.1 := by
  rcases o with q | q | q | ⟨x, hx, q⟩ | ⟨x, hx, y, hy, q⟩
  · exact .inl (.inl q)
  · exact .inl (.inr (.inl q))
  · exact .inl (.inr (.inr (.inl q)))
  · obtain ⟨z, hz, _, r | r⟩ := mem_putE hx
    · exact .inr (.inl (q.trans r.2.1))
    · exact .inl (.inr (.inr (.inr (.inl ⟨z, hz, by rw [q, r.2]⟩))))
  · obtain ⟨z, hz, _, r | r⟩ := mem_putE hx
    · rw [r.2.2] at hy
      exact .inr (.inr ⟨y, hy, q⟩)
    · rw [r.2] at hy
      exact .inl (.inr (.inr (.inr (.inr ⟨z, hz, y, hy, q⟩))))
theorem fram_put {H H' : Hp} {h : Ho} {e : Ent} {l : Addr} {ms : List (Addr × Si24.Member)} (kp : ∀ b o, H b = some o → ¬ Own h b → H' b = some o) (hl : Own h l ∨ H l = none) (hm : ∀ x ∈ ms, Own h x.1 ∨ H x.1 = none) : Fram H h H' { h with L := putE h.L e.k l ms } :=
  ⟨kp, fun b o => by
    rcases own_put o with q | q | ⟨x, hx, q⟩
    · exact .inl q
    · rw [q]; exact hl
    · rw [q]; exact hm x hx⟩
theorem own_sd (h : Ho) : Own h h.sd := .inr (.inr (.inl rfl))
theorem own_mem {h : Ho} {e : Ent} (he : e ∈ h.L) {x : Addr × Si24.Member} (hx : x ∈ e.ms) : Own h x.1 := .inr (.inr (.inr (.inr ⟨e, he, x, hx, rfl⟩)))
theorem own_lst {h : Ho} {e : Ent} (he : e ∈ h.L) : Own h e.l := .inr (.inr (.inr (.inl ⟨e, he, rfl⟩)))
/-- what is new is nowhere -/
theorem HRd.new_l {H : Hp} {h : Ho} {so : HO} (R : HRd C D H h so) {l : Addr} (hl : H l = none) : (∀ x ∈ h.L, x.l ≠ l) ∧ l ≠ h.lv ∧ ∀ x ∈ h.L, ∀ y ∈ x.ms, y.1 ≠ l :=
  ⟨fun x hx => ne_of_none (R.lst x hx) hl, (ne_of_none R.lvl hl).symm, fun x hx y hy => let ⟨_, q⟩ := R.mem x hx y hy; ne_of_none q hl⟩

/-! ### source_fits, source_or_set_fits, bits_fit, member_fits -/
def spUnder (n : Int) : Sp := fun vs H Q _ => ∃ z : Int, vs = [.int z] ∧ Q (.bl (decide (0 ≤ z ∧ z < n))) H
theorem scSourceFits : FnScope ["source"] ["source"] (defScope sSourceFits) := ⟨rfl, rfl, rfl, by decide +kernel, rfl, by decide +kernel, by decide +kernel⟩
theorem ok_source_fits {f : Addr} {fd : FuncData} (F : Fn K mg "source_fits" sSourceFits ["source"] f fd) (T : Txt K mg C D) : FnOk P w K mg base CX0 1 f fd ["source"] (spUnder 256) := by
  refine F.F.ok scSourceFits (fun vs H Q E h => ?_) (fun cdv A outer s H vs Q E hr h => ?_)
  · obtain ⟨z, rfl, _⟩ := h
    rfl
  · obtain ⟨z, rfl, k⟩ := h
    refine ⟨_, pss_one (ps_ret (pe_chain op_le op_lt pe_int (pv 0) (pgi T.gSOURCES))), ?_⟩
    refine ⟨_, rfl, _, _, rfl, rfl, _, rfl, ite2 (fun hq => ?_) (fun hq => ?_)⟩
    · have hq' : 0 ≤ z := of_decide_eq_true hq
      refine ⟨_, _, rfl, rfl, ?_⟩
      have e : decide (z < 256) = decide (0 ≤ z ∧ z < 256) := decide_eq_decide.mpr ⟨fun q => ⟨hq', q⟩, fun q => q.2⟩
      show Q (.bl (decide (z < 256))) H
      rw [e]
      exact k
    · have hq' : ¬ 0 ≤ z := fun q => hq (decide_eq_true q)
      rw [decide_eq_false (fun q => hq' q.1)] at k
      exact k
theorem scSourceOrSetFits : FnScope ["source"] ["source"] (defScope sSourceOrSetFits) := ⟨rfl, rfl, rfl, by decide +kernel, rfl, by decide +kernel, by decide +kernel⟩
theorem ok_source_or_set_fits {f : Addr} {fd : FuncData} (F : Fn K mg "source_or_set_fits" sSourceOrSetFits ["source"] f fd) (T : Txt K mg C D) : FnOk P w K mg base CX0 1 f fd ["source"] (spUnder 272) := by
  refine F.F.ok scSourceOrSetFits (fun vs H Q E h => ?_) (fun cdv A outer s H vs Q E hr h => ?_)
  · obtain ⟨z, rfl, _⟩ := h
    rfl
  · obtain ⟨z, rfl, k⟩ := h
    refine ⟨_, pss_one (ps_ret (pe_chain op_le op_lt pe_int (pv 0) (pe_op op_add (pgi T.gSOURCES) (pgi T.gSETS)))), ?_⟩
    refine ⟨_, rfl, _, _, rfl, rfl, _, rfl, ite2 (fun hq => ?_) (fun hq => ?_)⟩
    · have hq' : 0 ≤ z := of_decide_eq_true hq
      refine ⟨_, _, rfl, rfl, _, _, rfl, rfl, ?_⟩
      have e : decide (z < 256 + 16) = decide (0 ≤ z ∧ z < 272) := decide_eq_decide.mpr ⟨fun q => ⟨hq', q⟩, fun q => q.2⟩
      show Q (.bl (decide (z < 256 + 16))) H
      rw [e]
      exact k
    · have hq' : ¬ 0 ≤ z := fun q => hq (decide_eq_true q)
      rw [decide_eq_false (fun q => hq' q.1)] at k
      exact k
def spBitsFit : Sp := fun vs H Q _ => ∃ z : Int, vs = [.int z] ∧ Q (.bl (decide (0 ≤ z ∧ z ≤ 15))) H
theorem scBitsFit : FnScope ["bits"] ["bits"] (defScope sBitsFit) := ⟨rfl, rfl, rfl, by decide +kernel, rfl, by decide +kernel, by decide +kernel⟩
theorem ok_bits_fit {f : Addr} {fd : FuncData} (F : Fn K mg "bits_fit" sBitsFit ["bits"] f fd) (T2 : Txt2 K mg) : FnOk P w K mg base CX0 1 f fd ["bits"] spBitsFit := by
  refine F.F.ok scBitsFit (fun vs H Q E h => ?_) (fun cdv A outer s H vs Q E hr h => ?_)
  · obtain ⟨z, rfl, _⟩ := h
    rfl
  · obtain ⟨z, rfl, k⟩ := h
    refine ⟨_, pss_one (ps_ret (pe_chain op_le op_le pe_int (pv 0) (pgi T2.gBITS))), ?_⟩
    refine ⟨_, rfl, _, _, rfl, rfl, _, rfl, ite2 (fun hq => ?_) (fun hq => ?_)⟩
    · have hq' : 0 ≤ z := of_decide_eq_true hq
      refine ⟨_, _, rfl, rfl, ?_⟩
      have e : decide (z ≤ 15) = decide (0 ≤ z ∧ z ≤ 15) := decide_eq_decide.mpr ⟨fun q => ⟨hq', q⟩, fun q => q.2⟩
      show Q (.bl (decide (z ≤ 15))) H
      rw [e]
      exact k
    · have hq' : ¬ 0 ≤ z := fun q => hq (decide_eq_true q)
      rw [decide_eq_false (fun q => hq' q.1)] at k
      exact k
def spMemberFits : Sp := fun vs H Q _ => ∃ z b m : Int, vs = [.int z, .int b, .int m] ∧ Q (.bl (decide (Fits z b m))) H
theorem scMemberFits : FnScope ["source", "bits", "mode"] ["source", "bits", "mode"] (defScope sMemberFits) := ⟨rfl, rfl, rfl, by decide +kernel, rfl, by decide +kernel, by decide +kernel⟩
theorem ok_member_fits {f fS fB : Addr} {fd fdS fdB : FuncData} (F : Fn K mg "member_fits" sMemberFits ["source", "bits", "mode"] f fd) (T : Txt K mg C D) (T2 : Txt2 K mg) (FS : Fn K mg "source_or_set_fits" sSourceOrSetFits ["source"] fS fdS)
    (FB : Fn K mg "bits_fit" sBitsFit ["bits"] fB fdB) : FnOk P w K mg base CX0 2 f fd ["source", "bits", "mode"] spMemberFits := by
  have GS : FnOk P w K mg base CX0 1 fS fdS ["source"] (spUnder 272) := ok_source_or_set_fits FS T
  have GB : FnOk P w K mg base CX0 1 fB fdB ["bits"] spBitsFit := ok_bits_fit FB T2
  refine F.F.ok scMemberFits (fun vs H Q E h => ?_) (fun cdv A outer s H vs Q E hr h => ?_)
  · obtain ⟨z, b, m, rfl, _⟩ := h
    rfl
  · obtain ⟨z, b, m, rfl, k⟩ := h
    refine ⟨_, pss_one (ps_ret (pe_and (pe_call GS hr rfl FS.m FS.F.kp FS.b .nil pass0 (pa_cons (pv 0) pa_nil)) (pe_and (pe_call GB hr rfl FB.m FB.F.kp FB.b .nil pass0 (pa_cons (pv 1) pa_nil)) (pe_one (pe_chain op_le op_le pe_int (pv 2) (pgi T2.gMODE)))))), ?_⟩
    have no : ¬ Fits z b m → Q (.bl false) H := fun n => by rw [decide_eq_false n] at k; exact k
    refine ⟨_, rfl, _, rfl, _, rfl, ite2 (fun h1 => ?_) (fun h1 => no fun q => h1 (decide_eq_true q.1))⟩
    refine ⟨_, rfl, _, rfl, _, rfl, ite2 (fun h2 => ?_) (fun h2 => no fun q => h2 (decide_eq_true q.2.1))⟩
    refine ⟨_, rfl, _, _, rfl, rfl, _, rfl, ite2 (fun h4 => ?_) (fun h4 => no fun q => h4 (decide_eq_true q.2.2.1))⟩
    refine ⟨_, _, rfl, rfl, ?_⟩
    have e : decide (m ≤ 2) = decide (Fits z b m) := decide_eq_decide.mpr ⟨fun q => ⟨of_decide_eq_true h1, of_decide_eq_true h2, of_decide_eq_true h4, q⟩, fun q => q.2.2.2⟩
    show Q (.bl (decide (m ≤ 2))) H
    rw [e]
    exact k
/-! ### begins -/
def spCall0 (C D : Addr) (c : Si24.Call) : Sp := fun vs H Q _ => ∃ h : Ho, vs = [.ref h.p] ∧ HAt C D H h ∧ HGood h ∧ Done C D H h c Q
theorem scBegins : FnScope ["house"] ["house"] (defScope sBegins) := ⟨rfl, rfl, rfl, by decide +kernel, rfl, by decide +kernel, by decide +kernel⟩
theorem begun_at {H H' : Hp} {p dx lv sd : Addr} (b : Begun D H p dx lv sd H') : HAt C D H' (begun p lv sd) where
  ob := ⟨dx, b.2.2.2.1⟩
  lvl := by
    show H' lv = _
    rw [b.2.2.2.2.1]
    show _ = some (HO.lst ((List.replicate 256 0).map fun n : Nat => V.int n))
    rw [List.map_replicate]; rfl
  sds := b.2.2.2.2.2.1
  is := .inl rfl
  lst := fun e he => by cases he
  mem := fun e he => by cases he
theorem ok_begins {f fB : Addr} {fd fdB : FuncData} (F : Fn K mg "begins" sBegins ["house"] f fd) (T : Txt K mg C D) (FB : Fun K "begin" "House.begin" sBegin fB fdB) (bB : Binds K fdB ["self"] []) (mB : Meth K D "begin" fB) :
    FnOk P w K mg base CX0 2 f fd ["house"] (spCall0 C D .begins) := by
  have GB : FnOk P w K mg base CX0 1 fB fdB ["self"] (spBegin D) := ok_begin FB T
  refine F.F.ok scBegins (fun vs H Q E h => ?_) (fun cdv A outer s H vs Q E hr h => ?_)
  · obtain ⟨h, rfl, _⟩ := h
    rfl
  · obtain ⟨h, rfl, R, g, k⟩ := h
    obtain ⟨dp, hp⟩ := R.ob
    refine ⟨_, pss_cons (ps_expr (pe_meth0 (pv 0) T.clD mB GB hr bB .nil pass0)) (pss_one (ps_ret pe_int)), ?_⟩
    refine ⟨_, rfl, h.p, dp, _, rfl, hp, hf_no _ _ (by decide +kernel) (by decide +kernel), h.p, dp, _, rfl, hp, .inr ⟨_, _, rfl⟩, fun lv sd H' bg => ?_⟩
    refine k.to (h' := begun h.p lv sd) (z := 0) ?_ rfl (begun_at bg) (begun_good _ _ _) ⟨fun b o e n => bg.2.2.2.2.2.2 b o e fun q => n (.inl q), fun b o => ?_⟩
    · rw [begun_st]; rfl
    · rcases o with q | q | q | ⟨x, hx, q⟩ | ⟨x, hx, q⟩
      · exact .inl (.inl q)
      · rw [q]; exact .inr bg.1
      · rw [q]; exact .inr bg.2.1
      · cases hx
      · cases hx
/-! ### opens -/
theorem scOpens : FnScope ["house", "number"] ["house"] (defScope sOpens) := ⟨rfl, rfl, rfl, by decide +kernel, rfl, by decide +kernel, by decide +kernel⟩
theorem valV_lay_some (L : List Ent) (k : Nat) : (valV (kvsOf L) (Sum.inl (k : Int))).isSome = (lay L k).isSome := by
  rw [valV_lay, Option.isSome_map]
theorem ok_opens {f : Addr} {fd : FuncData} (F : Fn K mg "opens" sOpens ["house"] f fd) (T : Txt K mg C D) (T2 : Txt2 K mg) : FnOk P w K mg base CX0 1 f fd ["house"] (spCall0 C D .opens) := by
  refine F.F.ok scOpens (fun vs H Q E h => ?_) (fun cdv A outer s H vs Q E hr h => ?_)
  · obtain ⟨h, rfl, _⟩ := h
    rfl
  · obtain ⟨h, rfl, R, g, k⟩ := h
    have hu := hu_of hr
    obtain ⟨dp, hp⟩ := R.ob
    refine ⟨_, pss_cons (ps_for PassesOwn.never rfl (pi_range1 rfl T2.brange (pa_cons (pgi T.gSETS) pa_nil)) (pg_name (i := 1) scOpens.nd rfl (Or.inl rfl))
      (pss_one (ps_if (pt_cmp (pc_dnotin hu (pv 1) (pe_fld (pv 0) rfl)) (by with_unfolding_all rfl)) (pss_cons (ps_dput hu (pe_fld (pv 0) rfl) (pv 1) (pe_lst pa_nil) rfl) (pss_one (ps_ret (pv 1)))) pss_nil)))
      (pss_one (ps_ret (pgi T2.gFULL))), ?_⟩
    refine ⟨16, rfl, by decide, by decide, for_range (n := 16) (fun i σ H' => (∃ v, σ = [some (.ref h.p), v]) ∧ H' = H ∧ ∀ j, j < i → lay h.L j ≠ none) ⟨⟨_, rfl⟩, rfl, fun j hj => absurd hj (Nat.not_lt_zero _)⟩ ?_ ?_⟩
    · rintro i σ H' hi ⟨⟨v, rfl⟩, rfl, hlow⟩
      have e0 : (0 : Int) + (i : Nat) = (i : Int) := Int.zero_add _
      rw [e0]
      refine ⟨_, rfl, _, rfl, h.p, D, dp, _, _, rfl, hp, T.clD, T.nSets, hf_sets _ _, h.sd, _, rfl, R.get (i : Int), _, rfl, ?_⟩
      rw [valV_lay_some]
      cases c : lay h.L i with
      | some e => exact iteF ⟨⟨_, rfl⟩, rfl, fun j hj => by
          by_cases q : j = i
          · rw [q, c]; exact fun z => by cases z
          · exact hlow j (by omega)⟩
      | none =>
        refine iteT ⟨Nat.zero_le _, fun l hl => ?_⟩
        obtain ⟨dp', hp'⟩ := (R.same (same_new hl)).ob
        refine ⟨_, rfl, h.p, D, dp', _, _, rfl, hp', T.clD, T.nSets, hf_sets _ _, _, rfl, h.sd, _, rfl, DPut.k (k := Sum.inl (i : Int)) (R.same (same_new hl)).sds (kvs_size g.toHG0), ?_⟩
        obtain ⟨n1, n2, n3⟩ := R.new_l hl
        have nl : l ≠ h.sd := (ne_of_none R.sds hl).symm
        refine ⟨_, rfl, k.to (h' := { h with L := h.L ++ [⟨i, l, []⟩] }) (plain_opens hi c hlow l) rfl ?_ (good_opens g hi c n1 n2) ⟨fun b o e n => ?_, fun b o => ?_⟩⟩
        · rw [putK_new c]
          have ap := (R.same (same_new (o := .lst []) hl)).apart
          have R' := R.same (same_new (o := .lst []) hl)
          exact ⟨let ⟨dx, e⟩ := R'.ob; ⟨dx, by rw [upd_ne (ap _ (.inl rfl))]; exact e⟩, by rw [upd_ne (ap _ (.inr (.inl rfl)))]; exact R'.lvl, upd_same, .inl rfl,
            fun x hx => by
              rcases List.mem_append.mp hx with q | q
              · rw [upd_ne (ap _ (.inr (.inr (.inl ⟨x, q, rfl⟩))))]; exact R'.lst x q
              · rw [List.mem_singleton.mp q, upd_ne nl]; exact upd_same,
            fun x hx y hy => by
              rcases List.mem_append.mp hx with q | q
              · obtain ⟨dx, e⟩ := R'.mem x q y hy
                exact ⟨dx, by rw [upd_ne (ap _ (.inr (.inr (.inr ⟨x, q, y, hy, rfl⟩))))]; exact e⟩
              · rw [List.mem_singleton.mp q] at hy; cases hy⟩
        · rw [upd_ne (fun q => n (by rw [q]; exact own_sd h)), upd_ne (ne_of_none e hl)]; exact e
        · rcases o with q | q | q | ⟨x, hx, q⟩ | ⟨x, hx, y, hy, q⟩
          · exact .inl (.inl q)
          · exact .inl (.inr (.inl q))
          · exact .inl (.inr (.inr (.inl q)))
          · rcases List.mem_append.mp hx with z | z
            · exact .inl (.inr (.inr (.inr (.inl ⟨x, z, q⟩))))
            · rw [List.mem_singleton.mp z] at q; rw [q]; exact .inr hl
          · rcases List.mem_append.mp hx with z | z
            · exact .inl (.inr (.inr (.inr (.inr ⟨x, z, y, hy, q⟩))))
            · rw [List.mem_singleton.mp z] at hy; cases hy
    · rintro σ H' ⟨⟨v, rfl⟩, rfl, hlow⟩
      exact k.no (plain_opens_full hlow) R g (Same.refl _)
end
end Rs
namespace Rs
open PySem L2
section
variable {P : Program} {w : World} {K : PySem.W.Frag} {mg : Str → Option Value} {base : Heap} {C D : Addr}
/-! ### drop -/
def spDrop (C D : Addr) : Sp := fun vs H Q _ => ∃ (h : Ho) (k z : Int), vs = [.ref h.p, .int k, .int z] ∧ HAt C D H h ∧ HGood h ∧ Done C D H h (.drop k z) Q
theorem scDrop : FnScope ["house", "number", "source"] ["house", "number", "source"] (defScope sDrop) := ⟨rfl, rfl, rfl, by decide +kernel, rfl, by decide +kernel, by decide +kernel⟩
theorem good_without {h : Ho} (g : HGood h) {e : Ent} (he : e ∈ h.L) {l : Addr} (src : Int) (nl : ∀ x ∈ h.L, x.l ≠ l) (nlv : l ≠ h.lv) : HGood { h with L := putE h.L e.k l (without e.ms src) } :=
  g.put (without_good g.toHG0 he src nl nlv) fun x hx => g.kid e he x (without_mem hx).1
theorem valV_has_iff {L : List Ent} (z : Int) : (valV (kvsOf L) (Sum.inl z)).isSome = decide (∃ e ∈ L, z = (e.k : Int)) := Bool.eq_iff_iff.mpr (by rw [valV_has, decide_eq_true_eq])
theorem ok_drop {f fF fH fR : Addr} {fd fdF fdH fdR : FuncData} (F : Fn K mg "drop" sDrop ["house", "number", "source"] f fd) (T : Txt K mg C D) (T2 : Txt2 K mg) (FF : Fn K mg "source_or_set_fits" sSourceOrSetFits ["source"] fF fdF)
    (FH : Fn K mg "has_member" sHasMember ["house", "number", "source"] fH fdH) (FR : Fn K mg "remove_member" sRemoveMember ["house", "number", "source"] fR fdR) : FnOk P w K mg base CX0 2 f fd ["house", "number", "source"] (spDrop C D) := by
  have GF : FnOk P w K mg base CX0 1 fF fdF ["source"] (spUnder 272) := ok_source_or_set_fits FF T
  have GH : FnOk P w K mg base CX0 1 fH fdH ["house", "number", "source"] (spHasMember C D) := ok_has_member FH T
  have GR : FnOk P w K mg base CX0 1 fR fdR ["house", "number", "source"] (spRemoveMember C D) := ok_remove_member FR T
  refine F.F.ok scDrop (fun vs H Q E h => ?_) (fun cdv A outer s H vs Q E hr h => ?_)
  · obtain ⟨h, k, z, rfl, _⟩ := h
    rfl
  · obtain ⟨h, kk, z, rfl, R, g, k⟩ := h
    have hu := hu_of hr
    obtain ⟨dp, hp⟩ := R.ob
    refine ⟨_, pss_cons (ps_if (pt_not (pt_val (pe_call GF hr rfl FF.m FF.F.kp FF.b .nil pass0 (pa_cons (pv 2) pa_nil)))) (pss_one (ps_ret (pgi T2.gRANGE))) pss_nil)
      (pss_cons (ps_if (PW.pt (pw_or (pt_cmp (pc_dnotin hu (pv 1) (pe_fld (pv 0) rfl)) (by with_unfolding_all rfl)) (pw_or1 (pt_not (pt_val (pe_call GH hr rfl FH.m FH.F.kp FH.b .nil pass0 (pa_cons (pv 0) (pa_cons (pv 1) (pa_cons (pv 2) pa_nil)))))))))
        (pss_one (ps_ret (pgi T2.gTHERE))) pss_nil)
      (pss_cons (ps_expr (pe_call GR hr rfl FR.m FR.F.kp FR.b .nil pass0 (pa_cons (pv 0) (pa_cons (pv 1) (pa_cons (pv 2) pa_nil))))) (pss_one (ps_ret pe_int)))), ?_⟩
    refine ⟨_, rfl, _, rfl, _, rfl, ?_⟩
    by_cases q : 0 ≤ z ∧ z < 272
    · rw [decide_eq_true q]
      refine iteF ⟨_, rfl, _, rfl, h.p, D, dp, _, _, rfl, hp, T.clD, T.nSets, hf_sets _ _, h.sd, _, rfl, R.get kk, _, rfl, ?_⟩
      rw [valV_has_iff]
      by_cases n : ∃ e ∈ h.L, kk = (e.k : Int)
      · rw [decide_eq_true n]
        obtain ⟨e, he, rfl⟩ := n
        refine iteF ⟨_, rfl, _, rfl, _, rfl, h, _, e, z, rfl, R, g.toHG0, he, fun H1 s1 => ⟨_, rfl, ?_⟩⟩
        cases c : e.ms.any fun x => decide ((x.2.src : Int) = z) with
        | false => exact iteT (k.no (plain_drop_3 g.toHG0 he q c) R g s1)
        | true =>
          refine iteF ⟨_, rfl, _, rfl, _, rfl, h, e, z, rfl, R.same s1, g.toHG0, he, fun l H2 hl R2 kp => ?_⟩
          have hl0 := s1.free hl
          obtain ⟨n1, n2, n3⟩ := R.new_l hl0
          exact k.to (plain_drop g.toHG0 he q c l) rfl R2 (good_without g he z n1 n2) (fram_put (fun b o y n => kp b o (s1 b o y) fun w => n (by rw [w]; exact own_sd h)) (.inr hl0) fun x hx => .inl (own_mem he (without_mem hx).1))
      · rw [decide_eq_false n]
        exact iteT (iteT (k.no (plain_drop_2 g.toHG0 q n) R g (Same.refl _)))
    · rw [decide_eq_false q]
      exact iteT (k.no (plain_drop_1 q) R g (Same.refl _))
/-! ### shut -/
def spShut (C D : Addr) : Sp := fun vs H Q _ => ∃ (h : Ho) (k : Int), vs = [.ref h.p, .int k] ∧ HAt C D H h ∧ HGood h ∧ Done C D H h (.shut k) Q
theorem scShut : FnScope ["house", "number", "other"] ["house", "number"] (defScope sShut) := ⟨rfl, rfl, rfl, by decide +kernel, rfl, by decide +kernel, by decide +kernel⟩
theorem ok_shut {f fR : Addr} {fd fdR : FuncData} (F : Fn K mg "shut" sShut ["house", "number"] f fd) (T : Txt K mg C D) (T2 : Txt2 K mg) (FR : Fn K mg "remove_member" sRemoveMember ["house", "number", "source"] fR fdR) : FnOk P w K mg base CX0 2 f fd ["house", "number"] (spShut C D) := by
  have GR : FnOk P w K mg base CX0 1 fR fdR ["house", "number", "source"] (spRemoveMember C D) := ok_remove_member FR T
  refine F.F.ok scShut (fun vs H Q E h => ?_) (fun cdv A outer s H vs Q E hr h => ?_)
  · obtain ⟨h, k, rfl, _⟩ := h
    rfl
  · obtain ⟨h, kk, rfl, R, g, k⟩ := h
    have hu := hu_of hr
    obtain ⟨dp, hp⟩ := R.ob
    refine ⟨_, pss_cons (ps_if (pt_cmp (pc_dnotin hu (pv 1) (pe_fld (pv 0) rfl)) (by with_unfolding_all rfl)) (pss_one (ps_ret (pgi T2.gTHERE))) pss_nil)
      (pss_cons (ps_expr (pe_dpop1 (pe_fld (pv 0) rfl) (pv 1) ⟨rfl, rfl, rfl, rfl⟩))
      (pss_cons (ps_for PassesOwn.never rfl (pi_list (pe_callTy (call_listD rfl) (by rfl) T2.blist PyProof.Rows.boot_list (pa_cons (pe_fld (pv 0) rfl) pa_nil))) (pg_name (i := 2) scShut.nd rfl (Or.inl rfl))
        (pss_one (ps_expr (pe_call GR hr rfl FR.m FR.F.kp FR.b .nil pass0 (pa_cons (pv 0) (pa_cons (pv 2) (pa_cons (pe_op op_add (pgi T.gSOURCES) (pv 1)) pa_nil)))))))
      (pss_one (ps_ret pe_int)))), ?_⟩
    refine ⟨_, rfl, _, rfl, h.p, D, dp, _, _, rfl, hp, T.clD, T.nSets, hf_sets _ _, h.sd, _, rfl, R.get kk, _, rfl, ?_⟩
    rw [valV_has_iff]
    by_cases n : ∃ e ∈ h.L, kk = (e.k : Int)
    · rw [decide_eq_true n]
      obtain ⟨e, he, rfl⟩ := n
      refine iteF ⟨_, rfl, h.p, D, dp, _, _, rfl, hp, T.clD, T.nSets, hf_sets _ _, h.sd, rfl, .inl ⟨_, .inl R.sds⟩, _, rfl, _, Sum.inl (e.k : Int), _, R.sds, rfl, valV_at g.good he, ?_⟩
      obtain ⟨L1, eL1⟩ : ∃ X, X = h.L.filter fun x => decide (x.k ≠ e.k) := ⟨_, rfl⟩
      rw [dropK_at, ← eL1]
      have hL1 : ∀ x ∈ L1, x ∈ h.L ∧ x.k ≠ e.k := fun x hx => by
        rw [eL1] at hx
        exact ⟨(List.mem_filter.mp hx).1, of_decide_eq_true (List.mem_filter.mp hx).2⟩
      have g1 : HG0 { h with L := L1 } := by rw [eL1]; exact g.toHG0.drop e.k
      have R1 : HAt C D (upd H h.sd (.dK (kvsOf L1))) { h with L := L1 } :=
        ⟨let ⟨dx, q⟩ := R.ob; ⟨dx, by rw [upd_ne (R.apart _ (.inl rfl))]; exact q⟩, by rw [upd_ne (R.apart _ (.inr (.inl rfl)))]; exact R.lvl, upd_same, .inl rfl,
          fun x hx => by rw [upd_ne (R.apart _ (.inr (.inr (.inl ⟨x, (hL1 x hx).1, rfl⟩))))]; exact R.lst x (hL1 x hx).1,
          fun x hx y hy => let ⟨dx, q⟩ := R.mem x (hL1 x hx).1 y hy; ⟨dx, by rw [upd_ne (R.apart _ (.inr (.inr (.inr ⟨x, (hL1 x hx).1, y, hy, rfl⟩))))]; exact q⟩⟩
      have kp1 : ∀ b o, H b = some o → b ≠ h.sd → (upd H h.sd (.dK (kvsOf L1))) b = some o := fun b o q n => by rw [upd_ne n]; exact q
      have fr1 : ∀ b, (upd H h.sd (.dK (kvsOf L1))) b = none → H b = none := fun b q => (upd_none q).1
      generalize upd H h.sd (.dK (kvsOf L1)) = H1 at R1 kp1 fr1 ⊢
      obtain ⟨dp1, hp1⟩ := R1.ob
      refine ⟨_, rfl, h.p, D, dp1, _, _, rfl, hp1, T.clD, T.nSets, hf_sets _ _, h.sd, _, rfl, R1.rd, fun B hB => ?_⟩
      have eks : ((kvsOf L1).map fun p => kV p.1) = L1.map fun x => V.int x.k := by
        unfold kvsOf; rw [List.map_map]; rfl
      show ∃ a, V.ref B = .ref a ∧ (∃ xs, SqL K (upd H1 B (.lst ((kvsOf L1).map fun p => kV p.1))) a xs) ∧ _
      rw [eks]
      refine ⟨B, rfl, ⟨_, SqL.of upd_same⟩, ?_⟩
      have R2 := R1.same (same_new (o := .lst (L1.map fun x => V.int x.k)) hB)
      have hBl : (upd H1 B (.lst (L1.map fun x => V.int x.k))) B = some (.lst (L1.map fun x => V.int x.k)) := upd_same
      have kp2 : ∀ b o, H b = some o → b ≠ h.sd → (upd H1 B (.lst (L1.map fun x => V.int x.k))) b = some o := fun b o q n => by rw [upd_ne (ne_of_none (kp1 b o q n) hB)]; exact kp1 b o q n
      have fr2 : ∀ b, (upd H1 B (.lst (L1.map fun x => V.int x.k))) b = none → H b = none := fun b q => fr1 b (upd_none q).1
      have nBs : B ≠ h.sd := (ne_of_none R1.sds hB).symm
      generalize upd H1 B (.lst (L1.map fun x => V.int x.k)) = H2 at R2 hBl kp2 fr2 ⊢
      refine for_list (K := K) (a := B) (xs := L1.map fun x => V.int x.k) (fun i σ H3 => ∃ (v : Option V) (L2 : List Ent), σ = [some (.ref h.p), some (.int e.k), v] ∧ Thru (256 + e.k : Nat) L1 i L2 ∧ HAt C D H3 { h with L := L2 } ∧ HG0 { h with L := L2 } ∧
          (∀ b o, H2 b = some o → b ≠ h.sd → H3 b = some o) ∧ ∀ x ∈ L2, Own h x.l ∨ H x.l = none)
        ⟨_, L1, rfl, thru_zero _ _, R2, g1, fun b o q _ => q, fun x hx => .inl (own_lst (hL1 x hx).1)⟩ (fun i σ H3 _ ⟨_, _, _, _, _, _, y, _⟩ => SqL.of (y _ _ hBl nBs)) ?_ ?_
      · rintro i x σ H3 hi ⟨v, L2, rfl, th, R3, g3, kp3, ow3⟩
        rw [List.getElem?_map] at hi
        cases c : L1[i]? with
        | none => rw [c] at hi; cases hi
        | some y =>
          rw [c] at hi
          obtain rfl : V.int (y.k : Int) = x := Option.some.inj hi
          have hy : y ∈ L2 := thru_at g1.good.nd th c
          refine ⟨_, rfl, _, rfl, _, rfl, _, _, rfl, rfl, { h with L := L2 }, y, _, rfl, R3, g3, hy, fun l H4 hl R4 kp4 => ?_⟩
          have es : (256 : Int) + (e.k : Int) = ((256 + e.k : Nat) : Int) := by omega
          rw [es] at R4
          obtain ⟨n1, n2, n3⟩ := R3.new_l hl
          have hl0 : H l = none := by
            refine fr2 l ?_
            cases q : H2 l with
            | none => rfl
            | some o =>
              by_cases z : l = h.sd
              · rw [z] at hl
                rw [R3.sds] at hl
                cases hl
              · rw [kp3 l o q z] at hl
                cases hl
          refine ⟨_, putE L2 y.k l (without y.ms (256 + e.k : Nat)), rfl, thru_step th g1.good.nd c l, R4, without_good g3 hy _ n1 n2, fun b o q n => kp4 b o (kp3 b o q n) n, fun x hx => ?_⟩
          obtain ⟨z, hz, _, q | q⟩ := mem_putE hx
          · rw [q.2.1]; exact .inr hl0
          · rw [q.2]; exact ow3 z hz
      · rintro σ H3 ⟨v, L2, rfl, th, R3, g3, kp3, ow3⟩
        rw [List.length_map] at th
        have ke := thru_end th
        have ke' := ke
        rw [eL1] at ke'
        refine k.to (h' := { h with L := L2 }) (plain_shut g.toHG0 he ke') rfl R3 ⟨g3, fun x hx z hz hs => ?_⟩ ⟨fun b o q n => kp3 b o (kp2 b o q fun y => n (by rw [y]; exact own_sd h)) fun y => n (by rw [y]; exact own_sd h), fun b o => ?_⟩
        · obtain ⟨x', hx', hk, hm⟩ := ke.mem x hx
          rw [hm] at hz
          obtain ⟨hz1, hz2⟩ := without_mem hz
          obtain ⟨e', he', q⟩ := g.kid x' (hL1 x' hx').1 z hz1 hs
          have hne : e'.k ≠ e.k := fun y => hz2 (by rw [q, y])
          obtain ⟨e2, h2, k2, _⟩ := ke'.imem e' (List.mem_filter.mpr ⟨he', decide_eq_true hne⟩)
          exact ⟨e2, h2, by rw [← k2]; exact q⟩
        · rcases o with q | q | q | ⟨x, hx, q⟩ | ⟨x, hx, y, hy, q⟩
          · exact .inl (.inl q)
          · exact .inl (.inr (.inl q))
          · exact .inl (.inr (.inr (.inl q)))
          · rw [q]; exact ow3 x hx
          · obtain ⟨x', hx', _, hy'⟩ := thru_ms th hx hy
            rw [q]; exact .inl (own_mem (hL1 x' hx').1 hy')
    · rw [decide_eq_false n]
      exact iteT (k.no (plain_shut_no g.toHG0 n) R g (Same.refl _))
end
end Rs
namespace Rs
open PySem L2
section
variable {P : Program} {w : World} {K : PySem.W.Frag} {mg : Str → Option Value} {base : Heap} {C D : Addr}
theorem modeV_of {m : Int} (h0 : 0 ≤ m) (h2 : m ≤ 2) : modeV (Si24.modeOf m) = m := by
  have h : m = 0 ∨ m = 1 ∨ m = 2 := by omega
  rcases h with rfl | rfl | rfl <;> decide
theorem mf_new {h : Ho} {z b m d : Int} (f : Fits z b m) (hd : 0 ≤ d) : mfR z b m d (if 256 ≤ z then 0 else (h.lvs.getD z.toNat 0 : Nat)) false = mf (h.st.member z b m d.toNat) := by
  have hz := f.1.1
  have hb := f.2.1.1
  show _ = mfR (z.toNat : Int) (b.toNat : Int) (modeV (Si24.modeOf m)) (d.toNat : Int) ((if z.toNat < Si24.SOURCES then h.lvs.getD z.toNat 0 else 0 : Nat) : Int) false
  rw [modeV_of f.2.2.1 f.2.2.2, Int.toNat_of_nonneg hz, Int.toNat_of_nonneg hb, Int.toNat_of_nonneg hd]
  have e : (if 256 ≤ z then (0 : Int) else (h.lvs.getD z.toNat 0 : Nat)) = ((if z.toNat < Si24.SOURCES then h.lvs.getD z.toNat 0 else 0 : Nat) : Int) := by
    by_cases q : 256 ≤ z
    · rw [if_pos q, if_neg (by show ¬ z.toNat < 256; omega)]; rfl
    · rw [if_neg q, if_pos (by show z.toNat < 256; omega)]
  rw [e]
/-! ### set_refusal -/
def spSetRefusal (C D : Addr) : Sp := fun vs H Q _ => ∃ (h : Ho) (e : Ent) (inner mode : Int), vs = [.ref h.p, .int e.k, .int inner, .int mode] ∧ HAt C D H h ∧ HGood h ∧ e ∈ h.L ∧
  (¬ (∃ e' ∈ h.L, inner = (e'.k : Int)) → Q (.int (-2)) H) ∧
  ∀ e' ∈ h.L, inner = (e'.k : Int) → ∀ H', Same H H' → (mode ≠ 0 ∨ Si24.inside h.st 16 e'.k e.k = true → Q (.int (-3)) H') ∧ (mode = 0 → Si24.inside h.st 16 e'.k e.k = false → Q (.int 0) H')
theorem scSetRefusal : FnScope ["house", "number", "inner", "mode"] ["house", "number", "inner", "mode"] (defScope sSetRefusal) := ⟨rfl, rfl, rfl, by decide +kernel, rfl, by decide +kernel, by decide +kernel⟩
theorem ok_set_refusal {f fH fW fI : Addr} {fd fdH fdW fdI : FuncData} (F : Fn K mg "set_refusal" sSetRefusal ["house", "number", "inner", "mode"] f fd) (T : Txt K mg C D) (T2 : Txt2 K mg) (FH : Fn K mg "has_in_it" sHasInIt ["house", "outer", "inner"] fH fdH)
    (FW : Fn K mg "sets_within" sSetsWithin ["house", "number"] fW fdW) (FI : Fn K mg "is_set" sIsSet ["source"] fI fdI) : FnOk P w K mg base CX0 4 f fd ["house", "number", "inner", "mode"] (spSetRefusal C D) := by
  have GH : FnOk P w K mg base CX0 3 fH fdH ["house", "outer", "inner"] (spHasInIt C D) := ok_has_in_it FH T FW FI
  refine F.F.ok scSetRefusal (fun vs H Q E h => ?_) (fun cdv A outer s H vs Q E hr h => ?_)
  · obtain ⟨h, e, i, m, rfl, _⟩ := h
    rfl
  · obtain ⟨h, e, inner, mode, rfl, R, g, he, k1, k2⟩ := h
    have hu := hu_of hr
    obtain ⟨dp, hp⟩ := R.ob
    refine ⟨_, pss_cons (ps_if (pt_cmp (pc_dnotin hu (pv 2) (pe_fld (pv 0) rfl)) (by with_unfolding_all rfl)) (pss_one (ps_ret (pgi T2.gTHERE))) pss_nil)
      (pss_cons (ps_if (PW.pt (pw_or (pt_cmpR op_ne (pv 3) (pgi T.gLEVEL) (nomark _)) (pw_or (pt_cmpR op_eq (pv 2) (pv 1) (nomark _)) (pw_or1 (pt_val (pe_call GH hr rfl FH.m FH.F.kp FH.b .nil pass0 (pa_cons (pv 0) (pa_cons (pv 2) (pa_cons (pv 1) pa_nil)))))))))
        (pss_one (ps_ret (pgi T2.gALLOWED))) pss_nil) (pss_one (ps_ret pe_int))), ?_⟩
    refine ⟨_, rfl, _, rfl, h.p, D, dp, _, _, rfl, hp, T.clD, T.nSets, hf_sets _ _, h.sd, _, rfl, R.get inner, _, rfl, ?_⟩
    rw [valV_has_iff]
    by_cases n : ∃ e' ∈ h.L, inner = (e'.k : Int)
    · rw [decide_eq_true n]
      obtain ⟨e', he', rfl⟩ := n
      have k2 := k2 e' he' rfl
      refine iteF ⟨_, rfl, rfl, _, rfl, ?_⟩
      by_cases q : mode = 0
      · rw [decide_eq_true (show V.int mode = V.int 0 by rw [q])]
        refine iteF ⟨_, rfl, _, rfl, rfl, _, rfl, ?_⟩
        by_cases q2 : e'.k = e.k
        · rw [decide_eq_true (show V.int (e'.k : Int) = V.int (e.k : Int) by rw [q2])]
          exact iteT (iteT ((k2 H (Same.refl _)).1 (.inr (by rw [q2]; exact inside_self _ _ _))))
        · rw [decide_eq_false (show ¬ V.int (e'.k : Int) = V.int (e.k : Int) from fun z => q2 (by injection z with z; omega))]
          refine iteF ⟨_, rfl, _, rfl, _, rfl, h, _, e', e, rfl, R, g, he', he, q2, fun H' s1 => ⟨_, rfl, ?_⟩⟩
          cases c : Si24.inside h.st 16 e'.k e.k with
          | true => exact iteT ((k2 H' s1).1 (.inr c))
          | false => exact iteF ((k2 H' s1).2 q c)
      · rw [decide_eq_false (show ¬ V.int mode = V.int 0 from fun z => q (by injection z))]
        exact iteT (iteT ((k2 H (Same.refl _)).1 (.inl q)))
    · rw [decide_eq_false n]
      exact iteT (k1 n)
/-! ### add_refusal -/
def AddSays (h : Ho) (k z b m v : Int) : Prop := (v < 0 ∧ ∀ d : Nat, d < 2 ^ 64 → Si24.plain h.st (.add k z b m d) = (h.st, Si24.say v)) ∨
  (v = 0 ∧ Fits z b m ∧ ∃ e ∈ h.L, k = (e.k : Int) ∧ Free h e z m ∧ (e.ms.any fun x => decide ((x.2.src : Int) = z)) = false ∧ e.ms.length < 64)
def spAddRefusal (C D : Addr) : Sp := fun vs H Q _ => ∃ (h : Ho) (k z b m : Int), vs = [.ref h.p, .int k, .int z, .int b, .int m] ∧ HAt C D H h ∧ HGood h ∧ ∀ v H', Same H H' → AddSays h k z b m v → Q (.int v) H'
theorem scAddRefusal : FnScope ["house", "number", "source", "bits", "mode", "refusal"] ["house", "number", "source", "bits", "mode"] (defScope sAddRefusal) := ⟨rfl, rfl, rfl, by decide +kernel, rfl, by decide +kernel, by decide +kernel⟩
theorem ok_add_refusal {f fM fS fH fW fI fHM : Addr} {fd fdM fdS fdH fdW fdI fdHM : FuncData} (F : Fn K mg "add_refusal" sAddRefusal ["house", "number", "source", "bits", "mode"] f fd) (T : Txt K mg C D) (T2 : Txt2 K mg)
    (FM : Fn K mg "member_fits" sMemberFits ["source", "bits", "mode"] fM fdM) (GM : FnOk P w K mg base CX0 2 fM fdM ["source", "bits", "mode"] spMemberFits) (FS : Fn K mg "set_refusal" sSetRefusal ["house", "number", "inner", "mode"] fS fdS)
    (FH : Fn K mg "has_in_it" sHasInIt ["house", "outer", "inner"] fH fdH) (FW : Fn K mg "sets_within" sSetsWithin ["house", "number"] fW fdW) (FI : Fn K mg "is_set" sIsSet ["source"] fI fdI)
    (FHM : Fn K mg "has_member" sHasMember ["house", "number", "source"] fHM fdHM) : FnOk P w K mg base CX0 5 f fd ["house", "number", "source", "bits", "mode"] (spAddRefusal C D) := by
  have GS : FnOk P w K mg base CX0 4 fS fdS ["house", "number", "inner", "mode"] (spSetRefusal C D) := ok_set_refusal FS T T2 FH FW FI
  have GI : FnOk P w K mg base CX0 1 fI fdI ["source"] spIsSet := ok_is_set FI T
  have GHM : FnOk P w K mg base CX0 1 fHM fdHM ["house", "number", "source"] (spHasMember C D) := ok_has_member FHM T
  refine F.F.ok scAddRefusal (fun vs H Q E h => ?_) (fun cdv A outer s H vs Q E hr h => ?_)
  · obtain ⟨h, k, z, b, m, rfl, _⟩ := h
    rfl
  · obtain ⟨h, kk, z, b, m, rfl, R, g, k⟩ := h
    have hu := hu_of hr
    have hr2 : Room 2 _ := hr.mono (by decide)
    have hr1 : Room 1 _ := hr.mono (by decide)
    obtain ⟨dp, hp⟩ := R.ob
    refine ⟨_, pss_cons (ps_if (pt_not (pt_val (pe_call GM hr2 rfl FM.m FM.F.kp FM.b .nil pass0 (pa_cons (pv 2) (pa_cons (pv 3) (pa_cons (pv 4) pa_nil)))))) (pss_one (ps_ret (pgi T2.gRANGE))) pss_nil)
      (pss_cons (ps_if (pt_cmp (pc_dnotin hu (pv 1) (pe_fld (pv 0) rfl)) (by with_unfolding_all rfl)) (pss_one (ps_ret (pgi T2.gTHERE))) pss_nil)
      (pss_cons (ps_set (i := 5) scAddRefusal.nd rfl (Or.inl rfl) (pe_ifExp (pt_val (pe_call GI hr1 rfl FI.m FI.F.kp FI.b .nil pass0 (pa_cons (pv 2) pa_nil)))
          (pe_call GS hr rfl FS.m FS.F.kp FS.b .nil pass0 (pa_cons (pv 0) (pa_cons (pv 1) (pa_cons (pe_op op_sub (pv 2) (pgi T.gSOURCES)) (pa_cons (pv 4) pa_nil))))) pe_int))
      (pss_cons (ps_if (pt_cmpR op_lt (pv 5) pe_int (nomark _)) (pss_one (ps_ret (pv 5))) pss_nil)
      (pss_cons (ps_if (pt_val (pe_call GHM hr1 rfl FHM.m FHM.F.kp FHM.b .nil pass0 (pa_cons (pv 0) (pa_cons (pv 1) (pa_cons (pv 2) pa_nil))))) (pss_one (ps_ret (pgi T2.gALREADY))) pss_nil)
      (pss_cons (ps_if (pt_cmpR op_ge (pe_callB call_len_seq (by rfl) T.blen PySem.boot_len (pa_cons (pe_dget hu (pe_fld (pv 0) rfl) (pv 1) (fun _ _ => rfl)) pa_nil)) (pgi T2.gMEMBERS) (nomark _)) (pss_one (ps_ret (pgi T2.gFULL))) pss_nil)
      (pss_one (ps_ret pe_int))))))), ?_⟩
    refine ⟨_, rfl, _, rfl, _, rfl, z, b, m, rfl, _, rfl, ?_⟩
    by_cases ft : Fits z b m
    · rw [decide_eq_true ft]
      refine iteF ⟨_, rfl, _, rfl, h.p, D, dp, _, _, rfl, hp, T.clD, T.nSets, hf_sets _ _, h.sd, _, rfl, R.get kk, _, rfl, ?_⟩
      rw [valV_has_iff]
      by_cases n : ∃ e ∈ h.L, kk = (e.k : Int)
      · rw [decide_eq_true n]
        obtain ⟨e, he, rfl⟩ := n
        -- behind the sets' own refusals
        have rest : ∀ (H1 : Hp), Same H H1 → Free h e z m → (tSeq (tIfS (tTest (tOp (rI0 fun i j => .bl (decide (i < j))) (tVar 5) (tC (.int 0)))) (tRet (tVar 5)) tNext)
            (tSeq (tIfS (tB (tCall (spHasMember C D) [] E0 (tCons (tVar 0) (tCons (tVar 1) (tCons (tVar 2) tNil))))) (tRet (tC (.int (-4)))) tNext)
            (tSeq (tIfS (tTest (tOp (rI0 fun i j => .bl (decide (j ≤ i))) (tCB (fun xs H Q => ∃ p ys, xs = [.ref p] ∧ (SqL K H p ys ∨ SqT K H p ys) ∧ Q (.int ys.length) H) (tCons (tDGet (tFld K (tVar 0) "sets") (tVar 1)) tNil)) (tC (.int 64)))) (tRet (tC (.int (-5)))) tNext)
            (tRet (tC (.int 0)))))) { nx := fun _ H' => Q .non H', rt := Q } [some (.ref h.p), some (.int e.k), some (.int z), some (.int b), some (.int m), some (.int 0)] H1 := by
          intro H1 s1 fr
          refine ⟨_, rfl, _, _, rfl, rfl, _, rfl, iteF ?_⟩
          refine ⟨_, rfl, _, rfl, _, rfl, h, _, e, z, rfl, R.same s1, g.toHG0, he, fun H2 s2 => ⟨_, rfl, ?_⟩⟩
          have s12 := s1.trans s2
          cases c : e.ms.any fun x => decide ((x.2.src : Int) = z) with
          | true => exact iteT (k (-4) H2 s12 (.inl ⟨by decide, fun d hd => plain_add_4 g.toHG0 he hd ft fr c⟩))
          | false =>
            have R2 := R.same s12
            obtain ⟨dp2, hp2⟩ := R2.ob
            refine iteF ⟨_, rfl, h.p, D, dp2, _, _, rfl, hp2, T.clD, T.nSets, hf_sets _ _, _, rfl, h.sd, _, rfl, R2.get_at g.toHG0 he, e.l, _, rfl, .inl (SqL.of (R2.lst e he)), _, _, rfl, rfl, _, rfl, ?_⟩
            rw [List.length_map]
            by_cases q : 64 ≤ e.ms.length
            · rw [decide_eq_true (show (64 : Int) ≤ (e.ms.length : Int) by omega)]
              exact iteT (k (-5) H2 s12 (.inl ⟨by decide, fun d hd => plain_add_5 g.toHG0 he hd ft fr c q⟩))
            · rw [decide_eq_false (show ¬ (64 : Int) ≤ (e.ms.length : Int) by omega)]
              exact iteF (k 0 H2 s12 (.inr ⟨rfl, ft, e, he, rfl, fr, c, by omega⟩))
        have stop : ∀ (v : Int) (H1 : Hp), v < 0 → Q (.int v) H1 → (tSeq (tIfS (tTest (tOp (rI0 fun i j => .bl (decide (i < j))) (tVar 5) (tC (.int 0)))) (tRet (tVar 5)) tNext)
            (tSeq (tIfS (tB (tCall (spHasMember C D) [] E0 (tCons (tVar 0) (tCons (tVar 1) (tCons (tVar 2) tNil))))) (tRet (tC (.int (-4)))) tNext)
            (tSeq (tIfS (tTest (tOp (rI0 fun i j => .bl (decide (j ≤ i))) (tCB (fun xs H Q => ∃ p ys, xs = [.ref p] ∧ (SqL K H p ys ∨ SqT K H p ys) ∧ Q (.int ys.length) H) (tCons (tDGet (tFld K (tVar 0) "sets") (tVar 1)) tNil)) (tC (.int 64)))) (tRet (tC (.int (-5)))) tNext)
            (tRet (tC (.int 0)))))) { nx := fun _ H' => Q .non H', rt := Q } [some (.ref h.p), some (.int e.k), some (.int z), some (.int b), some (.int m), some (.int v)] H1 := by
          intro v H1 hv q
          refine ⟨_, rfl, _, _, rfl, rfl, _, rfl, ?_⟩
          rw [decide_eq_true hv]
          exact iteT ⟨_, rfl, q⟩
        refine iteF ⟨_, rfl, _, rfl, _, rfl, ite2 (fun hq => ?_) (fun hq => ?_)⟩
        · have hq' : 256 ≤ z := of_decide_eq_true hq
          refine ⟨_, rfl, _, rfl, _, rfl, _, _, rfl, rfl, _, rfl, h, e, z - 256, m, rfl, R, g, he, fun n => ?_, fun e' he' ez H1 s1 => ⟨fun q => ?_, fun q1 q2 => ?_⟩⟩
          · exact stop (-2) H (by decide) (k (-2) H (Same.refl _) (.inl ⟨by decide, fun d hd => plain_add_2s g.toHG0 hd ft hq' n⟩))
          · have ez' : z = ((256 + e'.k : Nat) : Int) := by omega
            refine stop (-3) H1 (by decide) (k (-3) H1 s1 (.inl ⟨by decide, fun d hd => ?_⟩))
            rw [ez'] at ft ⊢
            exact plain_add_3 g.toHG0 he he' hd ft q
          · exact rest H1 s1 fun _ => ⟨q1, e', he', by omega, q2⟩
        · have hq' : ¬ 256 ≤ z := fun y => hq (decide_eq_true y)
          exact rest H (Same.refl _) fun y => absurd y hq'
      · rw [decide_eq_false n]
        exact iteT (k (-2) H (Same.refl _) (.inl ⟨by decide, fun d hd => plain_add_2 g.toHG0 hd ft n⟩))
    · rw [decide_eq_false ft]
      exact iteT (k (-1) H (Same.refl _) (.inl ⟨by decide, fun d hd => plain_add_1 hd ft⟩))
end
end Rs
namespace Rs
open PySem L2
section
variable {P : Program} {w : World} {K : PySem.W.Frag} {mg : Str → Option Value} {base : Heap} {C D : Addr}
theorem kvs_same {L : List Ent} (G : Good L) {e : Ent} (he : e ∈ L) (ms : List (Addr × Si24.Member)) : kvsOf (putE L e.k e.l ms) = kvsOf L := by
  unfold kvsOf putE
  rw [List.map_map]
  refine List.map_congr_left fun x hx => ?_
  show ((Sum.inl ((if x.k = e.k then (⟨x.k, e.l, ms⟩ : Ent) else x).k : Int) : Key), V.ref (if x.k = e.k then (⟨x.k, e.l, ms⟩ : Ent) else x).l) = _
  by_cases q : x.k = e.k
  · have : x = e := by
      have h1 := lay_mem G.nd hx
      have h2 := lay_mem G.nd he
      rw [q] at h1
      exact Option.some.inj (h1.symm.trans h2)
    rw [if_pos q, this]
  · rw [if_neg q]
/-- a set's list is written -/
theorem HRd.write {H : Hp} {h : Ho} (R : HAt C D H h) (g : HG0 h) {e : Ent} (he : e ∈ h.L) {ms : List (Addr × Si24.Member)} (hm : ∀ x ∈ ms, ∃ dx, H x.1 = some (.ins C dx (mf x.2))) :
    HAt C D (upd H e.l (.lst (ms.map fun x => V.ref x.1))) { h with L := putE h.L e.k e.l ms } := by
  have hl := R.lst e he
  have ni : ∀ {b C' dx : Addr} {fs : List (Str × V)}, H b = some (.ins C' dx fs) → b ≠ e.l := fun q => ne_of q hl (by intro z; cases z)
  refine ⟨let ⟨dx, q⟩ := R.ob; ⟨dx, by rw [upd_ne (ni q)]; exact q⟩, by rw [upd_ne (g.lvn e he).symm]; exact R.lvl, ?_, .inl rfl, fun x hx => ?_, fun x hx y hy => ?_⟩
  · show upd H e.l _ h.sd = some (.dK (kvsOf (putE h.L e.k e.l ms)))
    rw [kvs_same g.good he, upd_ne (ne_of R.sds hl (by intro z; cases z))]
    exact R.sds
  · obtain ⟨z, hz, _, q | q⟩ := mem_putE hx
    · rw [q.2.1, q.2.2]; exact upd_same
    · rw [q.2, upd_ne (g.lnd z hz e he q.1)]; exact R.lst z hz
  · obtain ⟨z, hz, _, q | q⟩ := mem_putE hx
    · rw [q.2.2] at hy
      obtain ⟨dx, c⟩ := hm y hy
      exact ⟨dx, by rw [upd_ne (ni c)]; exact c⟩
    · rw [q.2] at hy
      obtain ⟨dx, c⟩ := R.mem z hz y hy
      exact ⟨dx, by rw [upd_ne (ni c)]; exact c⟩
/-! ### add -/
def spAdd (C D : Addr) : Sp := fun vs H Q _ => ∃ (h : Ho) (k z b m d : Int), vs = [.ref h.p, .int k, .int z, .int b, .int m, .int d] ∧ HAt C D H h ∧ HGood h ∧ 0 ≤ d ∧ d < 2 ^ 64 ∧ Done C D H h (.add k z b m d.toNat) Q
theorem scAdd : FnScope ["house", "number", "source", "bits", "mode", "data", "refusal"] ["house", "number", "source", "bits", "mode", "data"] (defScope sAdd) := ⟨rfl, rfl, rfl, by decide +kernel, rfl, by decide +kernel, by decide +kernel⟩
theorem ok_add {f fA fN : Addr} {fd fdA fdN : FuncData} (F : Fn K mg "add" sAdd ["house", "number", "source", "bits", "mode", "data"] f fd) (T : Txt K mg C D) (T2 : Txt2 K mg)
    (FA : Fn K mg "add_refusal" sAddRefusal ["house", "number", "source", "bits", "mode"] fA fdA) (GA : FnOk P w K mg base CX0 5 fA fdA ["house", "number", "source", "bits", "mode"] (spAddRefusal C D))
    (FN : Fn K mg "new_member" sNewMember ["house", "source", "bits", "mode", "data"] fN fdN) (GN : FnOk P w K mg base CX0 3 fN fdN ["house", "source", "bits", "mode", "data"] (spNewMember C D)) :
    FnOk P w K mg base CX0 6 f fd ["house", "number", "source", "bits", "mode", "data"] (spAdd C D) := by
  refine F.F.ok scAdd (fun vs H Q E h => ?_) (fun cdv A outer s H vs Q E hr h => ?_)
  · obtain ⟨h, k, z, b, m, d, rfl, _⟩ := h
    rfl
  · obtain ⟨h, kk, z, b, m, d, rfl, R, g, hd0, hd1, k⟩ := h
    have hu := hu_of hr
    have hr3 : Room 3 _ := hr.mono (by decide)
    have hdn : d.toNat < 2 ^ 64 := by omega
    refine ⟨_, pss_cons (ps_set (i := 6) scAdd.nd rfl (Or.inl rfl) (pe_call GA hr rfl FA.m FA.F.kp FA.b .nil pass0 (pa_cons (pv 0) (pa_cons (pv 1) (pa_cons (pv 2) (pa_cons (pv 3) (pa_cons (pv 4) pa_nil)))))))
      (pss_cons (ps_if (pt_cmpR op_lt (pv 6) pe_int (nomark _)) (pss_one (ps_ret (pv 6))) pss_nil)
      (pss_cons (ps_expr (pe_bm PySem.F.plainAttrs_list PySem.F.slot_list_append PySem.F.type_list_append mt_append (pe_dget hu (pe_fld (pv 0) rfl) (pv 1) (fun _ _ => rfl))
        (pa_cons (pe_call GN hr3 rfl FN.m FN.F.kp FN.b .nil pass0 (pa_cons (pv 0) (pa_cons (pv 2) (pa_cons (pv 3) (pa_cons (pv 4) (pa_cons (pv 5) pa_nil)))))) pa_nil)))
      (pss_one (ps_ret (pe_callB call_len_seq (by rfl) T.blen PySem.boot_len (pa_cons (pe_dget hu (pe_fld (pv 0) rfl) (pv 1) (fun _ _ => rfl)) pa_nil)))))), ?_⟩
    refine ⟨_, rfl, _, rfl, _, rfl, _, rfl, _, rfl, h, kk, z, b, m, rfl, R, g, fun v H1 s1 says => ?_⟩
    refine ⟨_, rfl, _, _, rfl, rfl, _, rfl, ?_⟩
    rcases says with ⟨hv, q⟩ | ⟨hv, ft, e, he, rfl, fr, hn, hl⟩
    · rw [decide_eq_true hv]
      exact iteT ⟨_, rfl, k.no (q d.toNat hdn) R g s1⟩
    · rw [decide_eq_false (show ¬ v < 0 by omega)]
      have R1 := R.same s1
      obtain ⟨dp, hp⟩ := R1.ob
      refine iteF ⟨_, rfl, h.p, D, dp, _, _, rfl, hp, T.clD, T.nSets, hf_sets _ _, _, rfl, h.sd, _, rfl, R1.get_at g.toHG0 he, .inl ⟨rfl, _, SqL.of (R1.lst e he)⟩, ?_⟩
      refine ⟨_, rfl, _, rfl, _, rfl, _, rfl, _, rfl, h, _, z, b, m, d, rfl, R1, g.llen, ft.1.1, fun a dx H2 ha hm s2 => ?_⟩
      rw [mf_new ft hd0] at hm
      have R2 := R1.same s2
      have hlen : (e.ms.map fun x => V.ref x.1).length < sizeLine := by rw [List.length_map]; exact few_size g.toHG0 he
      refine ⟨e.l, _, _, rfl, rfl, R2.lst e he, hlen, ?_⟩
      have R3 := R2.write g.toHG0 he (ms := e.ms ++ [(a, h.st.member z b m d.toNat)]) fun x hx => by
        rcases List.mem_append.mp hx with q | q
        · exact R2.mem e he x q
        · rw [List.mem_singleton.mp q]; exact ⟨dx, hm⟩
      rw [List.map_append] at R3
      have ha0 := s1.free ha
      obtain ⟨n1, n2, n3⟩ := R.new_l ha0
      have g3 := good_add (d := d.toNat) g he ft fr hn hl n3
      obtain ⟨dp3, hp3⟩ := R3.ob
      have he3 : (⟨e.k, e.l, e.ms ++ [(a, h.st.member z b m d.toNat)]⟩ : Ent) ∈ putE h.L e.k e.l (e.ms ++ [(a, h.st.member z b m d.toNat)]) := List.mem_map.mpr ⟨e, he, by rw [if_pos rfl]⟩
      have d3 : DGet _ h.sd (.int e.k) (some (V.ref e.l)) := R3.get_at (e := ⟨e.k, e.l, e.ms ++ [(a, h.st.member z b m d.toNat)]⟩) g3.toHG0 he3
      have l3 := R3.lst _ he3
      have l3' : (upd H2 e.l (.lst ((e.ms.map fun x => V.ref x.1) ++ [V.ref a]))) e.l = some (.lst ((e.ms ++ [(a, h.st.member z b m d.toNat)]).map fun x => V.ref x.1)) := l3
      refine ⟨_, rfl, h.p, D, dp3, _, _, rfl, hp3, T.clD, T.nSets, hf_sets _ _, _, rfl, h.sd, _, rfl, d3, e.l, _, rfl, .inl (SqL.of l3'), ?_⟩
      rw [List.length_map, List.length_append]
      refine k.to (plain_add g.toHG0 he hdn ft fr hn hl e.l a) rfl R3 g3 (fram_put (fun b o y n => ?_) (.inl (own_lst he)) fun x hx => ?_)
      · rw [upd_ne fun q => n (by rw [q]; exact own_lst he)]
        exact s2 _ _ (s1 b o y)
      · rcases List.mem_append.mp hx with q | q
        · exact .inl (own_mem he q)
        · rw [List.mem_singleton.mp q]; exact .inr ha0
/-! ### change_refusal -/
def ChangeSays (h : Ho) (k z b m v : Int) : Prop := (v < 0 ∧ ∀ d : Nat, d < 2 ^ 64 → Si24.plain h.st (.change k z b m d) = (h.st, Si24.say v)) ∨
  (v = 0 ∧ Fits z b m ∧ (256 ≤ z → m = 0) ∧ ∃ e ∈ h.L, k = (e.k : Int) ∧ (e.ms.any fun x => decide ((x.2.src : Int) = z)) = true)
def spChangeRefusal (C D : Addr) : Sp := fun vs H Q _ => ∃ (h : Ho) (k z b m : Int), vs = [.ref h.p, .int k, .int z, .int b, .int m] ∧ HAt C D H h ∧ HGood h ∧ ∀ v H', Same H H' → ChangeSays h k z b m v → Q (.int v) H'
theorem scChangeRefusal : FnScope ["house", "number", "source", "bits", "mode"] ["house", "number", "source", "bits", "mode"] (defScope sChangeRefusal) := ⟨rfl, rfl, rfl, by decide +kernel, rfl, by decide +kernel, by decide +kernel⟩
theorem ok_change_refusal {f fM fI fHM : Addr} {fd fdM fdI fdHM : FuncData} (F : Fn K mg "change_refusal" sChangeRefusal ["house", "number", "source", "bits", "mode"] f fd) (T : Txt K mg C D) (T2 : Txt2 K mg)
    (FM : Fn K mg "member_fits" sMemberFits ["source", "bits", "mode"] fM fdM) (GM : FnOk P w K mg base CX0 2 fM fdM ["source", "bits", "mode"] spMemberFits) (FI : Fn K mg "is_set" sIsSet ["source"] fI fdI)
    (FHM : Fn K mg "has_member" sHasMember ["house", "number", "source"] fHM fdHM) : FnOk P w K mg base CX0 3 f fd ["house", "number", "source", "bits", "mode"] (spChangeRefusal C D) := by
  have GI : FnOk P w K mg base CX0 1 fI fdI ["source"] spIsSet := ok_is_set FI T
  have GHM : FnOk P w K mg base CX0 1 fHM fdHM ["house", "number", "source"] (spHasMember C D) := ok_has_member FHM T
  refine F.F.ok scChangeRefusal (fun vs H Q E h => ?_) (fun cdv A outer s H vs Q E hr h => ?_)
  · obtain ⟨h, k, z, b, m, rfl, _⟩ := h
    rfl
  · obtain ⟨h, kk, z, b, m, rfl, R, g, k⟩ := h
    have hu := hu_of hr
    have hr1 : Room 1 _ := hr.mono (by decide)
    obtain ⟨dp, hp⟩ := R.ob
    refine ⟨_, pss_cons (ps_if (pt_not (pt_val (pe_call GM hr rfl FM.m FM.F.kp FM.b .nil pass0 (pa_cons (pv 2) (pa_cons (pv 3) (pa_cons (pv 4) pa_nil)))))) (pss_one (ps_ret (pgi T2.gRANGE))) pss_nil)
      (pss_cons (ps_if (PW.pt (pw_or (pt_cmp (pc_dnotin hu (pv 1) (pe_fld (pv 0) rfl)) (by with_unfolding_all rfl)) (pw_or1 (pt_not (pt_val (pe_call GHM hr1 rfl FHM.m FHM.F.kp FHM.b .nil pass0 (pa_cons (pv 0) (pa_cons (pv 1) (pa_cons (pv 2) pa_nil)))))))))
        (pss_one (ps_ret (pgi T2.gTHERE))) pss_nil)
      (pss_cons (ps_if (PW.pt (pw_and (pt_val (pe_call GI hr1 rfl FI.m FI.F.kp FI.b .nil pass0 (pa_cons (pv 2) pa_nil))) (pw_and1 (pt_cmpR op_ne (pv 4) (pgi T.gLEVEL) (nomark _))))) (pss_one (ps_ret (pgi T2.gALLOWED))) pss_nil)
      (pss_one (ps_ret pe_int)))), ?_⟩
    refine ⟨_, rfl, _, rfl, _, rfl, z, b, m, rfl, _, rfl, ?_⟩
    by_cases ft : Fits z b m
    · rw [decide_eq_true ft]
      refine iteF ⟨_, rfl, _, rfl, h.p, D, dp, _, _, rfl, hp, T.clD, T.nSets, hf_sets _ _, h.sd, _, rfl, R.get kk, _, rfl, ?_⟩
      rw [valV_has_iff]
      by_cases n : ∃ e ∈ h.L, kk = (e.k : Int)
      · rw [decide_eq_true n]
        obtain ⟨e, he, rfl⟩ := n
        refine iteF ⟨_, rfl, _, rfl, _, rfl, h, _, e, z, rfl, R, g.toHG0, he, fun H1 s1 => ⟨_, rfl, ?_⟩⟩
        cases c : e.ms.any fun x => decide ((x.2.src : Int) = z) with
        | false => exact iteT (k (-2) H1 s1 (.inl ⟨by decide, fun d hd => plain_change_2m g.toHG0 he hd ft c⟩))
        | true =>
          refine iteF ⟨_, rfl, _, rfl, _, rfl, ite2 (fun hq => ?_) (fun hq => ?_)⟩
          · have hq' : 256 ≤ z := of_decide_eq_true hq
            refine ⟨_, rfl, rfl, _, rfl, ?_⟩
            by_cases q : m = 0
            · rw [decide_eq_true (show V.int m = V.int 0 by rw [q])]
              exact iteF (k 0 H1 s1 (.inr ⟨rfl, ft, fun _ => q, e, he, rfl, c⟩))
            · rw [decide_eq_false (show ¬ V.int m = V.int 0 from fun y => q (by injection y))]
              exact iteT (k (-3) H1 s1 (.inl ⟨by decide, fun d hd => plain_change_3 g.toHG0 he hd ft c hq' q⟩))
          · have hq' : ¬ 256 ≤ z := fun y => hq (decide_eq_true y)
            exact iteF (k 0 H1 s1 (.inr ⟨rfl, ft, fun y => absurd y hq', e, he, rfl, c⟩))
      · rw [decide_eq_false n]
        exact iteT (iteT (k (-2) H (Same.refl _) (.inl ⟨by decide, fun d hd => plain_change_2 g.toHG0 hd ft n⟩)))
    · rw [decide_eq_false ft]
      exact iteT (k (-1) H (Same.refl _) (.inl ⟨by decide, fun d hd => plain_change_1 hd ft⟩))
/-! ### change -/
def spChange (C D : Addr) : Sp := fun vs H Q _ => ∃ (h : Ho) (k z b m d : Int), vs = [.ref h.p, .int k, .int z, .int b, .int m, .int d] ∧ HAt C D H h ∧ HGood h ∧ 0 ≤ d ∧ d < 2 ^ 64 ∧ Done C D H h (.change k z b m d.toNat) Q
theorem scChange : FnScope ["house", "number", "source", "bits", "mode", "data", "refusal", "changed", "member"] ["house", "number", "source", "bits", "mode", "data"] (defScope sChange) := ⟨rfl, rfl, rfl, by decide +kernel, rfl, by decide +kernel, by decide +kernel⟩
theorem bkChange : BlkOk ["house", "number", "source", "bits", "mode", "data", "refusal", "changed", "member"] (defScope sChange) (lcs [(".0", .local), ("member", .local), ("changed", .free), ("source", .free)]) [("member", 8)] := ⟨rfl, by decide +kernel, by decide +kernel, by decide +kernel, by decide +kernel⟩
theorem anew_take {ms : List (Addr × Si24.Member)} {z : Int} {y : Addr × Si24.Member} {i : Nat} {x : Addr × Si24.Member} (c : ms[i]? = some x) : anew (ms.take (i + 1)) z y = anew (ms.take i) z y ++ [if (x.2.src : Int) = z then y else x] := by
  unfold anew
  rw [List.take_add_one, c, List.map_append]; rfl
theorem ok_change {f fA fN : Addr} {fd fdA fdN : FuncData} (F : Fn K mg "change" sChange ["house", "number", "source", "bits", "mode", "data"] f fd) (T : Txt K mg C D) (T2 : Txt2 K mg)
    (FA : Fn K mg "change_refusal" sChangeRefusal ["house", "number", "source", "bits", "mode"] fA fdA) (GA : FnOk P w K mg base CX0 3 fA fdA ["house", "number", "source", "bits", "mode"] (spChangeRefusal C D))
    (FN : Fn K mg "new_member" sNewMember ["house", "source", "bits", "mode", "data"] fN fdN) (GN : FnOk P w K mg base CX0 3 fN fdN ["house", "source", "bits", "mode", "data"] (spNewMember C D)) :
    FnOk P w K mg base CX0 4 f fd ["house", "number", "source", "bits", "mode", "data"] (spChange C D) := by
  refine F.F.ok scChange (fun vs H Q E h => ?_) (fun cdv A outer s H vs Q E hr h => ?_)
  · obtain ⟨h, k, z, b, m, d, rfl, _⟩ := h
    rfl
  · obtain ⟨h, kk, z, b, m, d, rfl, R, g, hd0, hd1, k⟩ := h
    have hu := hu_of hr
    have hdn : d.toNat < 2 ^ 64 := by omega
    refine ⟨_, pss_cons (ps_set (i := 6) scChange.nd rfl (Or.inl rfl) (pe_call GA hr rfl FA.m FA.F.kp FA.b .nil pass0 (pa_cons (pv 0) (pa_cons (pv 1) (pa_cons (pv 2) (pa_cons (pv 3) (pa_cons (pv 4) pa_nil)))))))
      (pss_cons (ps_if (pt_cmpR op_lt (pv 6) pe_int (nomark _)) (pss_one (ps_ret (pv 6))) pss_nil)
      (pss_cons (ps_set (i := 7) scChange.nd rfl (Or.inr rfl) (pe_call GN hr rfl FN.m FN.F.kp FN.b .nil pass0 (pa_cons (pv 0) (pa_cons (pv 2) (pa_cons (pv 3) (pa_cons (pv 4) (pa_cons (pv 5) pa_nil)))))))
      (pss_cons (ps_dput hu (pe_fld (pv 0) rfl) (pv 1) (pe_lc (own := [("member", 8)]) (te := tIf (tTest (tOp rEq (tFld K (tVar 8) "source") (tVar 2))) (tVar 7) (tVar 8)) rfl scChange.nd (pi_list (pe_dget hu (pe_fld (pv 0) rfl) (pv 1) (fun _ _ => rfl)))
        bkChange (fun _ _ _ _ _ => pg_name (i := 8) scChange.nd rfl (Or.inl rfl)) (fun _ _ _ _ _ => pts_nil) (fun _ _ _ _ _ => pe_ifExp (pt_cmpR op_eq (pe_fld (pv 8) rfl) (pv 2) (nomark _)) (pv 7) (pv 8))) rfl)
      (pss_one (ps_ret pe_int))))), ?_⟩
    refine ⟨_, rfl, _, rfl, _, rfl, _, rfl, _, rfl, h, kk, z, b, m, rfl, R, g, fun v H1 s1 says => ?_⟩
    refine ⟨_, rfl, _, _, rfl, rfl, _, rfl, ?_⟩
    rcases says with ⟨hv, q⟩ | ⟨hv, ft, hm0, e, he, rfl, hn⟩
    · rw [decide_eq_true hv]
      exact iteT ⟨_, rfl, k.no (q d.toNat hdn) R g s1⟩
    · rw [decide_eq_false (show ¬ v < 0 by omega)]
      have R1 := R.same s1
      refine iteF ⟨_, rfl, _, rfl, _, rfl, _, rfl, _, rfl, h, _, z, b, m, d, rfl, R1, g.llen, ft.1.1, fun a dx H2 ha hm s2 => ?_⟩
      rw [mf_new ft hd0] at hm
      have R2 := R1.same s2
      have ha0 := s1.free ha
      obtain ⟨dp, hp⟩ := R2.ob
      refine ⟨_, rfl, h.p, D, dp, _, _, rfl, hp, T.clD, T.nSets, hf_sets _ _, _, rfl, h.sd, _, rfl, R2.get_at g.toHG0 he, e.l, rfl, ⟨_, SqL.of (R2.lst e he)⟩, fun B hB => ?_⟩
      refine lcl_list (K := K) (a := e.l) (xs := e.ms.map fun x => V.ref x.1) (fun i acc H' => Same H2 H' ∧ acc = ((anew (e.ms.take i) z (a, h.st.member z b m d.toNat)).map fun x => V.ref x.1)) ⟨same_new hB, rfl⟩ (fun i acc H' _ _ q => q.1.seq (SqL.of (R2.lst e he))) ?_ ?_
      · rintro i x acc H' hi hD hac ⟨sm, rfl⟩
        obtain ⟨y, c, rfl⟩ := ref_at hi
        obtain ⟨dy, hy⟩ := R2.mem e he y (List.mem_of_getElem? c)
        have hil : i < e.ms.length := (List.getElem?_eq_some_iff.mp c).1
        have hfew := few_size g.toHG0 he
        have ws := anew_take (z := z) (y := (a, h.st.member z b m d.toNat)) c
        have nx : ∀ (u : V), u = V.ref (if (y.2.src : Int) = z then (a, h.st.member z b m d.toNat) else y).1 → ∃ acc, H' B = some (.lst acc) ∧ acc.length < sizeLine ∧ LcNx B (fun i acc H' => Same H2 H' ∧ acc = ((anew (e.ms.take i) z (a, h.st.member z b m d.toNat)).map fun x => V.ref x.1)) i (upd H' B (.lst (acc ++ [u]))) := fun u eu =>
          ⟨_, hD, by omega, _, upd_same, (by rw [List.length_append]; show _ + 1 ≤ _; omega), fun b o z => by rw [upd_ne (ne_of_none z hB)]; exact sm b o z, by rw [ws, List.map_append, eu]; rfl⟩
        refine ⟨rfl, _, rfl, y.1, C, dy, _, _, rfl, sm _ _ hy, T.clC, T.nSource, mfR_source, _, rfl, rfl, _, rfl, ?_⟩
        by_cases q : (y.2.src : Int) = z
        · rw [decide_eq_true (show V.int (y.2.src : Int) = V.int z by rw [q])]
          exact iteT ⟨_, rfl, nx _ (by rw [if_pos q])⟩
        · rw [decide_eq_false (show ¬ V.int (y.2.src : Int) = V.int z from fun w => q (by injection w))]
          exact iteF ⟨_, rfl, nx _ (by rw [if_neg q])⟩
      · rintro acc H' hD ⟨sm, rfl⟩
        rw [List.length_map, List.take_length] at hD
        have R' := R2.same sm
        obtain ⟨dp', hp'⟩ := R'.ob
        refine ⟨_, rfl, h.p, D, dp', _, _, rfl, hp', T.clD, T.nSets, hf_sets _ _, _, rfl, h.sd, _, rfl, DPut.k (k := Sum.inl (e.k : Int)) R'.sds (kvs_size g.toHG0), ?_⟩
        have hB0 : H B = none := s1.free (s2.free hB)
        have nB : B ≠ h.sd := (ne_of_none R.sds hB0).symm
        have ha' : H' a = some (.ins C dx (mf (h.st.member z b m d.toNat))) := sm _ _ hm
        have nas : a ≠ h.sd := ne_of ha' R'.sds (by intro y; cases y)
        obtain ⟨n1, n2, n3⟩ := R.new_l hB0
        obtain ⟨m1, m2, m3⟩ := R.new_l ha0
        refine k.to (plain_change g.toHG0 he hdn ft hn hm0 B a) rfl (HRd.put (so := .dK (kvsOf h.L)) R' (fun b o z n => by rw [upd_ne n]; exact z) R'.apart ?_ ?_ ?_) (good_change g he ft hm0 n1 n2 m3) (fram_put (fun b o y n => ?_) (.inr hB0) fun x hx => ?_)
        · rw [upd_ne nB]; exact hD
        · rw [upd_same, putK_at he B (anew e.ms z (a, h.st.member z b m d.toNat))]
        · intro x hx
          rcases anew_mem hx with ⟨q, _⟩ | q
          · rw [q]; exact ⟨dx, by rw [upd_ne nas]; exact ha'⟩
          · obtain ⟨dy, c⟩ := R'.mem e he x q
            exact ⟨dy, by rw [upd_ne (R'.apart _ (.inr (.inr (.inr ⟨e, he, x, q, rfl⟩))))]; exact c⟩
        · rw [upd_ne fun w => n (by rw [w]; exact own_sd h)]
          exact sm _ _ (s2 _ _ (s1 b o y))
        · rcases anew_mem hx with ⟨q, _⟩ | q
          · rw [q]; exact .inr ha0
          · exact .inl (own_mem he q)
end
end Rs
namespace L2
open PySem PySem.Spec PyProof.Rows
/-- over a dict's keys, the dict locked -/
theorem for_keys {d : Addr} {o : Obj} {kvs : List (Key × V)} {g : TG} {tb : TS} {D : Ends} {σ : St} {H : Hp} (Pv : Nat → St → Hp → Prop) (h0 : Pv 0 σ H) (hl : ∀ i σ H, i ≤ kvs.length → Pv i σ H → H d = some (.frz o (.dK kvs)))
    (hs : ∀ i k v σ H, kvs[i]? = some (k, v) → Pv i σ H → g (kV k) σ H fun σ2 H2 => tb { D with nx := Pv (i + 1), ct := Pv (i + 1), bk := D.nx } σ2 H2) (hd : ∀ σ H, Pv kvs.length σ H → D.nx σ H) :
    ∃ W : Nat → Nat → St → Hp → Prop, (∃ m, W 0 m σ H) ∧ ∀ i m σ H, W i m σ H →
      ((Itk d o kvs).stop i H ∧ D.nx σ H) ∨ ((Itk d o kvs).go i H ∧ ∃ N : St → Hp → Prop, (∀ σ' H', N σ' H' → ∃ m', m' < m ∧ W (i + 1) m' σ' H') ∧ ∀ x H', (Itk d o kvs).yld i H x H' → g x σ H' fun σ2 H2 => tb { D with nx := N, ct := N, bk := D.nx } σ2 H2) := by
  refine ⟨fun i m σ H => m = kvs.length - i ∧ i ≤ kvs.length ∧ Pv i σ H, ⟨kvs.length, by simp, Nat.zero_le _, h0⟩, ?_⟩
  rintro i m σ H ⟨rfl, hi, p⟩
  have q := hl i σ H hi p
  by_cases hlt : i < kvs.length
  · refine .inr ⟨⟨q, hlt⟩, Pv (i + 1), fun σ' H' p' => ⟨kvs.length - (i + 1), by omega, rfl, hlt, p'⟩, fun x H' y => ?_⟩
    obtain ⟨e, k, v, ek, ex⟩ := y
    subst e ex
    exact hs i k v σ _ ek p
  · have e : i = kvs.length := by omega
    subst e
    exact .inl ⟨⟨q, Nat.le_refl _⟩, hd σ H p⟩
end L2
namespace Rs
open PySem L2
section
variable {P : Program} {w : World} {K : PySem.W.Frag} {mg : Str → Option Value} {base : Heap} {C D : Addr}
/-! ### members written one by one -/
def Mem (h : Ho) (b : Addr) : Prop := ∃ e ∈ h.L, ∃ x ∈ e.ms, b = x.1
/-- the members whose addresses are in A are as g makes them -/
structure Upto (C : Addr) (h : Ho) (f : Si24.Member → Si24.Member) (H0 : Hp) (A : List Addr) (H' : Hp) : Prop where
  kp : ∀ b o, H0 b = some o → b ∉ A → H' b = some o
  nw : ∀ e ∈ h.L, ∀ x ∈ e.ms, x.1 ∈ A → ∃ dx, H' x.1 = some (.ins C dx (mf (f x.2)))
  sub : ∀ b ∈ A, Mem h b
theorem Upto.zero {h : Ho} {f : Si24.Member → Si24.Member} {H0 : Hp} : Upto C h f H0 [] H0 :=
  ⟨fun b o e _ => e, fun e he x hx z => (by cases z), fun b z => (by cases z)⟩
theorem ent_inj {L : List Ent} (G : Good L) {x e : Ent} (hx : x ∈ L) (he : e ∈ L) (q : x.k = e.k) : x = e := by
  have h1 := lay_mem G.nd hx
  have h2 := lay_mem G.nd he
  rw [q] at h1
  exact Option.some.inj (h1.symm.trans h2)
theorem nd_fst {α β : Type} : ∀ {l : List (α × β)}, (l.map (·.1)).Nodup → ∀ {x y : α × β}, x ∈ l → y ∈ l → x.1 = y.1 → x = y
  | [], _, _, _, h, _, _ => by cases h
  | z :: l, n, x, y, hx, hy, q => by
    obtain ⟨n1, n2⟩ := List.nodup_cons.mp n
    rcases List.mem_cons.mp hx with a | a <;> rcases List.mem_cons.mp hy with b | b
    · rw [a, b]
    · exact absurd (List.mem_map.mpr ⟨y, b, by rw [← q, a]⟩) n1
    · exact absurd (List.mem_map.mpr ⟨x, a, by rw [q, b]⟩) n1
    · exact nd_fst n2 a b q
theorem HG0.inj {h : Ho} (g : HG0 h) {e e' : Ent} (he : e ∈ h.L) (he' : e' ∈ h.L) {x y : Addr × Si24.Member} (hx : x ∈ e.ms) (hy : y ∈ e'.ms) (q : x.1 = y.1) : e = e' ∧ x = y := by
  by_cases k : e.k = e'.k
  · have := ent_inj g.good he he' k
    subst this
    exact ⟨rfl, nd_fst (g.mnd e he) hx hy q⟩
  · exact absurd q (g.mne e he e' he' k x hx y hy)
theorem Upto.step {h : Ho} {f : Si24.Member → Si24.Member} {H0 H' H2 : Hp} {A : List Addr} (u : Upto C h f H0 A H') (g : HG0 h) {e : Ent} (he : e ∈ h.L) {x : Addr × Si24.Member} (hx : x ∈ e.ms) {dx : Addr} (new : H2 x.1 = some (.ins C dx (mf (f x.2))))
    (keep : ∀ b o, H' b = some o → b ≠ x.1 → H2 b = some o) : Upto C h f H0 (A ++ [x.1]) H2 where
  kp := fun b o e n => keep b o (u.kp b o e fun z => n (List.mem_append_left _ z)) fun z => n (List.mem_append_right _ (by rw [z]; exact List.mem_singleton.mpr rfl))
  nw := fun e' he' y hy z => by
    by_cases q : y.1 = x.1
    · obtain ⟨_, r⟩ := g.inj he' he hy hx q
      rw [r]
      exact ⟨dx, new⟩
    · rcases List.mem_append.mp z with z | z
      · obtain ⟨dy, c⟩ := u.nw e' he' y hy z
        exact ⟨dy, keep _ _ c q⟩
      · exact absurd (List.mem_singleton.mp z) q
  sub := fun b z => by
    rcases List.mem_append.mp z with z | z
    · exact u.sub b z
    · rw [List.mem_singleton.mp z]; exact ⟨e, he, x, hx, rfl⟩
theorem mf_len (m : Si24.Member) : (mf m).length = 6 := mfR_len
theorem ins_ne {C D dx dy : Addr} {lv sd : Addr} {m : Si24.Member} : (HO.ins D dx (hf lv sd)) ≠ .ins C dy (mf m) := fun z => by
  injection z with _ _ z
  have := congrArg List.length z
  rw [mf_len, hf_eq] at this
  cases this
theorem Upto.keep {h : Ho} {so : HO} {f : Si24.Member → Si24.Member} {H0 H' : Hp} {A : List Addr} (u : Upto C h f H0 A H') (R : HRd C D H0 h so) {b : Addr} {o : HO} (hb : H0 b = some o) (no : ∀ dx m, o ≠ .ins C dx (mf m)) : H' b = some o := by
  refine u.kp b o hb fun z => ?_
  obtain ⟨e, he, x, hx, rfl⟩ := u.sub b z
  obtain ⟨dx, q⟩ := R.mem e he x hx
  rw [q] at hb
  exact no dx x.2 (Option.some.inj hb).symm
theorem take_not {α : Type} {l : List α} (n : l.Nodup) {i : Nat} {a : α} (c : l[i]? = some a) : a ∉ l.take i := fun z => by
  obtain ⟨j, hj, ej⟩ := List.mem_iff_getElem.mp z
  rw [List.length_take] at hj
  rw [List.getElem_take] at ej
  have hi : i < l.length := (List.getElem?_eq_some_iff.mp c).1
  have ei : l[i] = a := (List.getElem?_eq_some_iff.mp c).2
  have := (List.getElem_inj n).mp (ej.trans ei.symm)
  omega
/-! ### rise -/
def lift1 (src up : Nat) (m : Si24.Member) : Si24.Member := if m.src = src then { m with risen := m.risen ||| up } else m
theorem mf_lift {m : Si24.Member} {src up : Nat} (q : m.src = src) : putF "risen" (.int (Builtin.bitOr (m.risen : Int) (up : Int))) (mf m) = mf (lift1 src up m) := by
  unfold lift1
  rw [if_pos q, bitOr_nat]
  exact mfR_putRisen _
theorem lift1_no {m : Si24.Member} {src up : Nat} (q : ¬ m.src = src) : lift1 src up m = m := if_neg q
def spRise (C D : Addr) : Sp := fun vs H Q _ => ∃ (h : Ho) (src up : Nat), vs = [.ref h.p, .int src, .int up] ∧ HAt C D H h ∧ HG0 h ∧
  ∀ H', HAt C D H' { h with L := h.L.map fun e => ⟨e.k, e.l, lifted e.ms src up⟩ } → (∀ b o, H b = some o → ¬ Mem h b → H' b = some o) → Q .non H'
theorem scRise : FnScope ["house", "source", "bits", "number", "member"] ["house", "source", "bits"] (defScope sRise) := ⟨rfl, rfl, rfl, by decide +kernel, rfl, by decide +kernel, by decide +kernel⟩
theorem lifted_refs (ms : List (Addr × Si24.Member)) (src up : Nat) : ((lifted ms src up).map fun x => V.ref x.1) = ms.map fun x => V.ref x.1 := by
  unfold lifted; rw [List.map_map]; rfl
theorem ok_rise {f : Addr} {fd : FuncData} (F : Fn K mg "rise" sRise ["house", "source", "bits"] f fd) (T : Txt K mg C D) : FnOk P w K mg base CX0 1 f fd ["house", "source", "bits"] (spRise C D) := by
  refine F.F.ok scRise (fun vs H Q E h => ?_) (fun cdv A outer s H vs Q E hr h => ?_)
  · obtain ⟨h, src, up, rfl, _⟩ := h
    rfl
  · obtain ⟨h, src, up, rfl, R, g, k⟩ := h
    have hu := hu_of hr
    refine ⟨_, pss_one (ps_lock (ps_for PassesOwn.never rfl (pi_keys (pe_fld (pv 0) rfl)) (pg_name (i := 3) scRise.nd rfl (Or.inl rfl))
      (pss_one (ps_for PassesOwn.never rfl (pi_list (pe_dget hu (pe_fld (pv 0) rfl) (pv 3) (fun _ _ => rfl))) (pg_name (i := 4) scRise.nd rfl (Or.inl rfl))
        (pss_one (ps_if (pt_cmpR op_eq (pe_fld (pv 4) rfl) (pv 1) (nomark _)) (pss_one (ps_fld (pv 4) (pe_op op_or (pe_fld (pv 4) rfl) (pv 2)) rfl)) pss_nil)))))), ?_⟩
    refine ⟨h.sd, .dK (kvsOf h.L), R.sds, True.intro, fun od => ?_⟩
    have RL := R.lock od
    have hl0 : ∀ b o, H b = some o → b ≠ h.sd → (upd H h.sd (.frz od (.dK (kvsOf h.L)))) b = some o := fun b o q n => by rw [upd_ne n]; exact q
    obtain ⟨dp, hp⟩ := RL.ob
    refine ⟨_, rfl, h.p, D, dp, _, _, rfl, hp, T.clD, T.nSets, hf_sets _ _, h.sd, od, rfl, .inl ⟨_, upd_same, ?_⟩⟩
    have hsd0 : (upd H h.sd (.frz od (.dK (kvsOf h.L)))) h.sd = some (.frz od (.dK (kvsOf h.L))) := upd_same
    generalize upd H h.sd (.frz od (.dK (kvsOf h.L))) = Hl at RL hl0 hp hsd0 ⊢
    refine for_keys (d := h.sd) (o := od) (kvs := kvsOf h.L) (fun i σ H' => ∃ v3 v4, σ = [some (.ref h.p), some (.int src), some (.int up), v3, v4] ∧ Upto C h (lift1 src up) Hl ((h.L.take i).flatMap fun e => e.ms.map (·.1)) H')
      ⟨_, _, rfl, Upto.zero⟩ (fun i σ H' _ ⟨_, _, _, u⟩ => u.keep RL hsd0 (fun _ _ z => by cases z)) ?_ ?_
    · rintro i kk v σ H' hi ⟨v3, v4, rfl, u⟩
      obtain ⟨e, c, rfl, rfl⟩ := kvs_at hi
      have he := List.mem_of_getElem? c
      have hsd1 := u.keep RL hsd0 (fun _ _ z => by cases z)
      have dg : DGet H' h.sd (.int e.k) (some (V.ref e.l)) := by
        have : DGet H' h.sd (.int e.k) (valV (kvsOf h.L) (Sum.inl (e.k : Int))) := .inl ⟨_, Sum.inl (e.k : Int), .inr ⟨od, hsd1⟩, rfl, rfl⟩
        rw [valV_at g.good he] at this
        exact this
      have hp1 := u.keep RL hp (fun _ _ => ins_ne)
      have hl1 := u.keep RL (RL.lst e he) (fun _ _ z => by cases z)
      refine ⟨_, rfl, h.p, D, dp, _, _, rfl, hp1, T.clD, T.nSets, hf_sets _ _, _, rfl, h.sd, _, rfl, dg, e.l, rfl, ⟨_, SqL.of hl1⟩, ?_⟩
      have fresh : e.k ∉ (h.L.take i).map (·.k) := key_fresh g.good.nd c
      refine for_list (K := K) (a := e.l) (xs := e.ms.map fun x => V.ref x.1) (fun j σ H2 => ∃ v4, σ = [some (.ref h.p), some (.int src), some (.int up), some (.int e.k), v4] ∧ Upto C h (lift1 src up) Hl (((h.L.take i).flatMap fun e => e.ms.map (·.1)) ++ (e.ms.take j).map (·.1)) H2)
        ⟨_, rfl, by rw [List.take_zero, List.map_nil, List.append_nil]; exact u⟩ (fun j σ H2 _ ⟨_, _, u2⟩ => SqL.of (u2.keep RL (RL.lst e he) (fun _ _ z => by cases z))) ?_ ?_
      · rintro j x σ H2 hj ⟨v4, rfl, u2⟩
        obtain ⟨y, cy, rfl⟩ := ref_at hj
        have hy := List.mem_of_getElem? cy
        obtain ⟨dx, hm⟩ := RL.mem e he y hy
        have ny : y.1 ∉ ((h.L.take i).flatMap fun e => e.ms.map (·.1)) ++ (e.ms.take j).map (·.1) := fun z => by
          rcases List.mem_append.mp z with z | z
          · obtain ⟨e', he', z⟩ := List.mem_flatMap.mp z
            obtain ⟨x', hx', z⟩ := List.mem_map.mp z
            have hin := List.mem_of_mem_take he'
            obtain ⟨q, _⟩ := g.inj hin he hx' hy z
            exact fresh (List.mem_map.mpr ⟨e', he', by rw [q]⟩)
          · have n := g.mnd e he
            have cm : (e.ms.map (·.1))[j]? = some y.1 := by rw [List.getElem?_map, cy]; rfl
            rw [List.map_take] at z
            exact take_not n cm z
        have hm2 := u2.kp _ _ hm ny
        have eA : (((h.L.take i).flatMap fun e => e.ms.map (·.1)) ++ (e.ms.take (j + 1)).map (·.1)) = (((h.L.take i).flatMap fun e => e.ms.map (·.1)) ++ (e.ms.take j).map (·.1)) ++ [y.1] := by
          rw [List.take_add_one, cy, List.map_append, List.append_assoc]; rfl
        refine ⟨_, rfl, y.1, C, dx, _, _, rfl, hm2, T.clC, T.nSource, mfR_source, _, rfl, rfl, _, rfl, ?_⟩
        by_cases q : y.2.src = src
        · rw [decide_eq_true (show V.int (y.2.src : Int) = V.int (src : Int) by rw [q])]
          refine iteT ⟨_, rfl, y.1, C, dx, _, _, rfl, hm2, T.clC, T.nRisen, mfR_risen, _, rfl, _, _, rfl, rfl, _, rfl, y.1, C, dx, _, rfl, hm2, T.clC, T.nRisen, (by rw [mf_len]; decide), ?_⟩
          refine ⟨_, rfl, ?_⟩
          rw [eA]
          exact u2.step g he hy (dx := dx) (by rw [upd_same, ← mf_lift q]) fun b o z n => by rw [upd_ne n]; exact z
        · rw [decide_eq_false (show ¬ V.int (y.2.src : Int) = V.int (src : Int) from fun z => q (by injection z with z; omega))]
          refine iteF ⟨_, rfl, ?_⟩
          rw [eA]
          exact u2.step g he hy (dx := dx) (by rw [lift1_no q]; exact hm2) fun b o z _ => z
      · rintro σ H2 ⟨v4, rfl, u2⟩
        refine ⟨_, _, rfl, ?_⟩
        rw [List.length_map, List.take_length] at u2
        have eB : ((h.L.take (i + 1)).flatMap fun e => e.ms.map (·.1)) = ((h.L.take i).flatMap fun e => e.ms.map (·.1)) ++ e.ms.map (·.1) := by
          rw [List.take_add_one, c, List.flatMap_append]
          show _ ++ List.flatMap _ [e] = _
          rw [List.flatMap_cons, List.flatMap_nil, List.append_nil]
        rw [eB]
        exact u2
    · rintro σ H' ⟨v3, v4, rfl, u⟩
      have ekl : (kvsOf h.L).length = h.L.length := List.length_map _
      rw [ekl, List.take_length] at u
      refine ⟨u.keep RL hsd0 (fun _ _ z => by cases z), ?_⟩
      have ap := RL.apart
      refine k _ ⟨?_, ?_, ?_, .inl rfl, ?_, ?_⟩ fun b o q n => ?_
      · exact ⟨dp, by rw [upd_ne (ap _ (.inl rfl))]; exact u.keep RL hp (fun _ _ => ins_ne)⟩
      · show upd H' h.sd _ h.lv = _
        rw [upd_ne (ap _ (.inr (.inl rfl)))]
        exact u.keep RL RL.lvl (fun _ _ z => by cases z)
      · show upd H' h.sd _ h.sd = some (.dK (kvsOf (h.L.map _)))
        rw [upd_same]
        unfold kvsOf
        rw [List.map_map]
        rfl
      · intro x hx
        obtain ⟨y, hy, rfl⟩ := List.mem_map.mp hx
        show upd H' h.sd _ y.l = some (.lst ((lifted y.ms src up).map fun x => V.ref x.1))
        rw [upd_ne (ap _ (.inr (.inr (.inl ⟨y, hy, rfl⟩)))), lifted_refs]
        exact u.keep RL (RL.lst y hy) (fun _ _ z => by cases z)
      · intro x hx z hz
        obtain ⟨y, hy, rfl⟩ := List.mem_map.mp hx
        obtain ⟨z', hz', rfl⟩ := List.mem_map.mp (show z ∈ y.ms.map _ from hz)
        obtain ⟨dz, q⟩ := u.nw y hy z' hz' (List.mem_flatMap.mpr ⟨y, hy, List.mem_map.mpr ⟨z', hz', rfl⟩⟩)
        refine ⟨dz, ?_⟩
        show upd H' h.sd _ z'.1 = _
        rw [upd_ne (ap _ (.inr (.inr (.inr ⟨y, hy, z', hz', rfl⟩))))]
        exact q
      · by_cases z : b = h.sd
        · subst z
          rw [R.sds] at q
          rw [upd_same]
          exact q
        · rw [upd_ne z]
          exact u.kp b o (hl0 b o q z) fun y => n (u.sub b y)
end
end Rs
namespace Rs
open PySem L2
section
variable {P : Program} {w : World} {K : PySem.W.Frag} {mg : Str → Option Value} {base : Heap} {C D : Addr}
/-! ### a level is written -/
theorem HRd.level {H : Hp} {h : Ho} (R : HAt C D H h) (lvn : ∀ e ∈ h.L, e.l ≠ h.lv) (src new : Nat) :
    HAt C D (upd H h.lv (.lst ((h.lvs.map fun n : Nat => V.int n).set src (V.int (new : Int))))) { h with lvs := h.lvs.set src new } := by
  have ni : ∀ {b C' dx : Addr} {fs : List (Str × V)}, H b = some (.ins C' dx fs) → b ≠ h.lv := fun q => ne_of q R.lvl (by intro z; cases z)
  refine ⟨let ⟨dx, q⟩ := R.ob; ⟨dx, by rw [upd_ne (ni q)]; exact q⟩, ?_, ?_, .inl rfl, fun x hx => ?_, fun x hx y hy => ?_⟩
  · show upd H h.lv _ h.lv = some (.lst ((h.lvs.set src new).map fun n : Nat => V.int n))
    rw [upd_same, List.map_set]
  · show upd H h.lv _ h.sd = some (.dK (kvsOf h.L))
    rw [upd_ne (ne_of R.sds R.lvl (by intro z; cases z))]
    exact R.sds
  · rw [upd_ne (lvn x hx)]; exact R.lst x hx
  · obtain ⟨dx, c⟩ := R.mem x hx y hy
    exact ⟨dx, by rw [upd_ne (ni c)]; exact c⟩
theorem HG0.level {h : Ho} (g : HG0 h) (src : Nat) {n : Nat} (hn : n ≤ 15) : HG0 { h with lvs := h.lvs.set src n } where
  good := g.good
  lnd := g.lnd
  lvn := g.lvn
  mnd := g.mnd
  mne := g.mne
  llen := by show (h.lvs.set src n).length = 256; rw [List.length_set]; exact g.llen
  lbit := fun m hm => by
    rcases List.mem_or_eq_of_mem_set (show m ∈ h.lvs.set src n from hm) with q | q
    · exact g.lbit m q
    · rw [q]; exact hn
  few := g.few
  lev := g.lev
  one := g.one
theorem own_lv (h : Ho) : Own h h.lv := .inr (.inl rfl)
theorem Mem.own {h : Ho} {b : Addr} (m : Mem h b) : Own h b := .inr (.inr (.inr (.inr m)))
theorem own_turned {h : Ho} {src new up : Nat} {b : Addr} (o : Own (h.turned src new up) b) : Own h b := by
  rcases o with q | q | q | ⟨x, hx, q⟩ | ⟨x, hx, y, hy, q⟩
  · exact .inl q
  · exact .inr (.inl q)
  · exact .inr (.inr (.inl q))
  · obtain ⟨x', hx', rfl⟩ := mem_turned hx
    exact .inr (.inr (.inr (.inl ⟨x', hx', q⟩)))
  · obtain ⟨x', hx', rfl⟩ := mem_turned hx
    obtain ⟨z, hz, q1, _⟩ := lifted_mem hy
    exact .inr (.inr (.inr (.inr ⟨x', hx', z, hz, q.trans q1⟩)))
theorem ixN_nat {n j : Nat} (h : j < n) : ixN n (j : Int) = some j := by
  unfold ixN
  rw [if_pos (by omega), if_pos (by omega), Int.toNat_natCast]
theorem lv_get {h : Ho} (g : HG0 h) {j : Nat} (hj : j < 256) : (h.lvs.map fun n : Nat => V.int n)[j]? = some (V.int (h.lvs.getD j 0 : Nat)) := by
  have hj' : j < h.lvs.length := by have := g.llen; omega
  rw [List.getElem?_map, List.getD_eq_getElem?_getD, List.getElem?_eq_getElem hj']
  rfl
/-! ### level -/
theorem level_bits : ∀ (o b : Fin 16), Builtin.bitAnd (b.val : Int) (Builtin.bitNot (o.val : Int)) = (((b.val &&& (15 - o.val)) ||| 0 : Nat) : Int) := by decide +kernel
def spLevel (C D : Addr) : Sp := fun vs H Q _ => ∃ (h : Ho) (z b : Int), vs = [.ref h.p, .int z, .int b] ∧ HAt C D H h ∧ HGood h ∧ Done C D H h (.level z b) Q
theorem scLevel : FnScope ["house", "source", "bits"] ["house", "source", "bits"] (defScope sLevel) := ⟨rfl, rfl, rfl, by decide +kernel, rfl, by decide +kernel, by decide +kernel⟩
theorem ok_level {f fS fB fR : Addr} {fd fdS fdB fdR : FuncData} (F : Fn K mg "level" sLevel ["house", "source", "bits"] f fd) (T : Txt K mg C D) (T2 : Txt2 K mg) (FS : Fn K mg "source_fits" sSourceFits ["source"] fS fdS)
    (FB : Fn K mg "bits_fit" sBitsFit ["bits"] fB fdB) (FR : Fn K mg "rise" sRise ["house", "source", "bits"] fR fdR) : FnOk P w K mg base CX0 2 f fd ["house", "source", "bits"] (spLevel C D) := by
  have GS : FnOk P w K mg base CX0 1 fS fdS ["source"] (spUnder 256) := ok_source_fits FS T
  have GB : FnOk P w K mg base CX0 1 fB fdB ["bits"] spBitsFit := ok_bits_fit FB T2
  have GR : FnOk P w K mg base CX0 1 fR fdR ["house", "source", "bits"] (spRise C D) := ok_rise FR T
  refine F.F.ok scLevel (fun vs H Q E h => ?_) (fun cdv A outer s H vs Q E hr h => ?_)
  · obtain ⟨h, z, b, rfl, _⟩ := h
    rfl
  · obtain ⟨h, z, b, rfl, R, g, k⟩ := h
    obtain ⟨dp, hp⟩ := R.ob
    refine ⟨_, pss_cons (ps_if (PW.pt (pw_or (pt_not (pt_val (pe_call GS hr rfl FS.m FS.F.kp FS.b .nil pass0 (pa_cons (pv 1) pa_nil)))) (pw_or1 (pt_not (pt_val (pe_call GB hr rfl FB.m FB.F.kp FB.b .nil pass0 (pa_cons (pv 2) pa_nil)))))))
        (pss_one (ps_ret (pgi T2.gRANGE))) pss_nil)
      (pss_cons (ps_expr (pe_call GR hr rfl FR.m FR.F.kp FR.b .nil pass0 (pa_cons (pv 0) (pa_cons (pv 1) (pa_cons (pe_op op_and (pv 2) (pe_un un_inv (pe_ix ix_list (pe_fld (pv 0) rfl) (pv 1) (fun _ _ => rfl)))) pa_nil)))))
      (pss_cons (ps_asg (pv 2) (pg_sub (pe_fld (pv 0) rfl) (pv 1) set_list)) (pss_one (ps_ret pe_int)))), ?_⟩
    refine ⟨_, rfl, _, rfl, _, rfl, ?_⟩
    by_cases q1 : 0 ≤ z ∧ z < 256
    · rw [decide_eq_true q1]
      refine iteF ⟨_, rfl, _, rfl, _, rfl, ?_⟩
      by_cases q2 : 0 ≤ b ∧ b ≤ 15
      · rw [decide_eq_true q2]
        obtain ⟨zn, rfl⟩ : ∃ j : Nat, z = (j : Int) := ⟨z.toNat, by omega⟩
        obtain ⟨bn, rfl⟩ : ∃ j : Nat, b = (j : Int) := ⟨b.toNat, by omega⟩
        have hz : zn < 256 := by omega
        have hb : bn ≤ 15 := by omega
        have hlv := lv_le g.toHG0 zn
        refine iteF ⟨_, rfl, _, rfl, _, rfl, _, rfl, h.p, D, dp, _, _, rfl, hp, T.clD, T.nLevels, hf_levels _ _, _, rfl, h.lv, _, _, _, rfl, rfl, SqL.of R.lvl, at_of (j := zn) rfl (lv_get g.toHG0 hz), _, rfl, _, _, rfl, rfl, ?_⟩
        refine ⟨h, zn, (bn &&& (15 - h.lvs.getD zn 0)) ||| 0, ?_, R, g.toHG0, fun H1 R1 kp1 => ?_⟩
        · have e := level_bits ⟨h.lvs.getD zn 0, by omega⟩ ⟨bn, by omega⟩
          show [_, _, V.int (Builtin.bitAnd (bn : Int) (Builtin.bitNot ((h.lvs.getD zn 0 : Nat) : Int)))] = _
          rw [e]
        · obtain ⟨dp1, hp1⟩ := R1.ob
          refine ⟨_, rfl, _, rfl, h.p, D, dp1, _, _, rfl, hp1, T.clD, T.nLevels, hf_levels _ _, _, rfl, h.lv, _, _, zn, rfl, rfl, R1.lvl, ixN_nat (by rw [List.length_map]; have := g.llen; show zn < h.lvs.length; omega), ?_⟩
          refine k.to (h' := h.turned zn bn ((bn &&& (15 - h.lvs.getD zn 0)) ||| 0)) (plain_level ⟨hz, hb⟩) rfl (R1.level (fun e he => ?_) zn bn) (good_turned g hb) ⟨fun b o e n => ?_, fun b o => .inl (own_turned o)⟩
          · obtain ⟨e', he', rfl⟩ := List.mem_map.mp he
            exact g.lvn e' he'
          · rw [upd_ne (fun q => n (by rw [q]; exact own_lv h))]
            exact kp1 b o e fun m => n m.own
      · rw [decide_eq_false q2]
        exact iteT (k.no (plain_level_1 fun c => q2 c.2) R g (Same.refl _))
    · rw [decide_eq_false q1]
      exact iteT (iteT (k.no (plain_level_1 fun c => q1 c.1) R g (Same.refl _)))
/-! ### poke -/
def spPoke (C D : Addr) : Sp := fun vs H Q _ => ∃ (h : Ho) (z b : Int), vs = [.ref h.p, .int z, .int b] ∧ HAt C D H h ∧ HGood h ∧ Done C D H h (.poke z b) Q
theorem scPoke : FnScope ["house", "source", "bits"] ["house", "source", "bits"] (defScope sPoke) := ⟨rfl, rfl, rfl, by decide +kernel, rfl, by decide +kernel, by decide +kernel⟩
theorem ok_poke {f fS fB fR : Addr} {fd fdS fdB fdR : FuncData} (F : Fn K mg "poke" sPoke ["house", "source", "bits"] f fd) (T : Txt K mg C D) (T2 : Txt2 K mg) (FS : Fn K mg "source_fits" sSourceFits ["source"] fS fdS)
    (FB : Fn K mg "bits_fit" sBitsFit ["bits"] fB fdB) (FR : Fn K mg "rise" sRise ["house", "source", "bits"] fR fdR) : FnOk P w K mg base CX0 2 f fd ["house", "source", "bits"] (spPoke C D) := by
  have GS : FnOk P w K mg base CX0 1 fS fdS ["source"] (spUnder 256) := ok_source_fits FS T
  have GB : FnOk P w K mg base CX0 1 fB fdB ["bits"] spBitsFit := ok_bits_fit FB T2
  have GR : FnOk P w K mg base CX0 1 fR fdR ["house", "source", "bits"] (spRise C D) := ok_rise FR T
  refine F.F.ok scPoke (fun vs H Q E h => ?_) (fun cdv A outer s H vs Q E hr h => ?_)
  · obtain ⟨h, z, b, rfl, _⟩ := h
    rfl
  · obtain ⟨h, z, b, rfl, R, g, k⟩ := h
    obtain ⟨dp, hp⟩ := R.ob
    refine ⟨_, pss_cons (ps_if (PW.pt (pw_or (pt_not (pt_val (pe_call GS hr rfl FS.m FS.F.kp FS.b .nil pass0 (pa_cons (pv 1) pa_nil)))) (pw_or1 (pt_not (pt_val (pe_call GB hr rfl FB.m FB.F.kp FB.b .nil pass0 (pa_cons (pv 2) pa_nil)))))))
        (pss_one (ps_ret (pgi T2.gRANGE))) pss_nil)
      (pss_cons (ps_expr (pe_call GR hr rfl FR.m FR.F.kp FR.b .nil pass0 (pa_cons (pv 0) (pa_cons (pv 1) (pa_cons (pv 2) pa_nil)))))
      (pss_cons (ps_asg (pe_op op_or (pe_ix ix_list (pe_fld (pv 0) rfl) (pv 1) (fun _ _ => rfl)) (pv 2)) (pg_sub (pe_fld (pv 0) rfl) (pv 1) set_list)) (pss_one (ps_ret pe_int)))), ?_⟩
    refine ⟨_, rfl, _, rfl, _, rfl, ?_⟩
    by_cases q1 : 0 ≤ z ∧ z < 256
    · rw [decide_eq_true q1]
      refine iteF ⟨_, rfl, _, rfl, _, rfl, ?_⟩
      by_cases q2 : 0 ≤ b ∧ b ≤ 15
      · rw [decide_eq_true q2]
        obtain ⟨zn, rfl⟩ : ∃ j : Nat, z = (j : Int) := ⟨z.toNat, by omega⟩
        obtain ⟨bn, rfl⟩ : ∃ j : Nat, b = (j : Int) := ⟨b.toNat, by omega⟩
        have hz : zn < 256 := by omega
        have hb : bn ≤ 15 := by omega
        have hlv := lv_le g.toHG0 zn
        have pl := plain_poke (h := h) ⟨hz, hb⟩
        have eu := poke_up ⟨h.lvs.getD zn 0, by omega⟩ ⟨bn, by omega⟩
        have hn := or_le15 ⟨h.lvs.getD zn 0, by omega⟩ ⟨bn, by omega⟩
        dsimp only at eu hn
        rw [eu] at pl
        refine iteF ⟨_, rfl, _, rfl, _, rfl, h, zn, bn, rfl, R, g.toHG0, fun H1 R1 kp1 => ?_⟩
        obtain ⟨dp1, hp1⟩ := R1.ob
        refine ⟨_, rfl, h.p, D, dp1, _, _, rfl, hp1, T.clD, T.nLevels, hf_levels _ _, _, rfl, h.lv, _, _, _, rfl, rfl, SqL.of R1.lvl, at_of (j := zn) rfl (lv_get g.toHG0 hz), _, rfl, _, _, rfl, rfl, ?_⟩
        refine ⟨_, rfl, h.p, D, dp1, _, _, rfl, hp1, T.clD, T.nLevels, hf_levels _ _, _, rfl, h.lv, _, _, zn, rfl, rfl, R1.lvl, ixN_nat (by rw [List.length_map]; have := g.llen; show zn < h.lvs.length; omega), ?_⟩
        dsimp only
        rw [bitOr_nat]
        refine k.to (h' := h.turned zn (h.lvs.getD zn 0 ||| bn) bn) pl rfl (R1.level (fun e he => ?_) zn (h.lvs.getD zn 0 ||| bn)) (good_turned g hn) ⟨fun b o e n => ?_, fun b o => .inl (own_turned o)⟩
        · obtain ⟨e', he', rfl⟩ := List.mem_map.mp he
          exact g.lvn e' he'
        · rw [upd_ne (fun q => n (by rw [q]; exact own_lv h))]
          exact kp1 b o e fun m => n m.own
      · rw [decide_eq_false q2]
        exact iteT (k.no (plain_poke_1 fun c => q2 c.2) R g (Same.refl _))
    · rw [decide_eq_false q1]
      exact iteT (iteT (k.no (plain_poke_1 fun c => q1 c.1) R g (Same.refl _)))
/-! ### gone -/
def Gone (s : Int) (L1 : List Ent) (dn : List Nat) : List Ent → Prop := Keyed (fun x y => (x.k ∈ dn ∧ y.ms = without x.ms s) ∨ (x.k ∉ dn ∧ y = x)) L1
theorem gone_zero (s : Int) (L1 : List Ent) : Gone s L1 [] L1 := Keyed.refl (fun x => .inr ⟨fun z => (by cases z), rfl⟩) L1
theorem gone_at {s : Int} {L1 Y : List Ent} {dn : List Nat} (h : Gone s L1 dn Y) {e : Ent} (he : e ∈ L1) (n : e.k ∉ dn) : e ∈ Y := by
  obtain ⟨y, hy, _, r | r⟩ := Keyed.imem h e he
  · exact absurd r.1 n
  · rw [← r.2]; exact hy
theorem gone_step {s : Int} {L1 Y : List Ent} {dn : List Nat} (G : Good L1) (h : Gone s L1 dn Y) {e : Ent} (he : e ∈ L1) (l : Nat) : Gone s L1 (dn ++ [e.k]) (putE Y e.k l (without e.ms s)) := by
  refine Keyed.put2 h (fun x y hx hk hy r => ?_) (fun x y hx hk hy r => ?_)
  · have := ent_inj G hx he (hk.trans hy)
    subst this
    exact .inl ⟨List.mem_append_right _ (List.mem_singleton.mpr rfl), rfl⟩
  · rcases r with r | r
    · exact .inl ⟨List.mem_append_left _ r.1, r.2⟩
    · refine .inr ⟨fun z => ?_, r.2⟩
      rcases List.mem_append.mp z with z | z
      · exact r.1 z
      · exact hy (hk.symm.trans (List.mem_singleton.mp z))
theorem Keyed.impm {R S : Ent → Ent → Prop} : ∀ {X Y : List Ent}, Keyed R X Y → (∀ x ∈ X, ∀ y, R x y → S x y) → Keyed S X Y
  | [], [], _, _ => True.intro
  | x :: X, y :: Y, h, f => ⟨h.1, f x List.mem_cons_self y h.2.1, Keyed.impm h.2.2 fun x' hx' => f x' (List.mem_cons_of_mem _ hx')⟩
  | [], _ :: _, h, _ => h.elim
  | _ :: _, [], h, _ => h.elim
theorem without_none {ms : List (Addr × Si24.Member)} {s : Int} (h : (ms.any fun x => decide ((x.2.src : Int) = s)) = false) : without ms s = ms := by
  unfold without
  refine List.filter_eq_self.mpr fun x hx => ?_
  cases c : decide ((x.2.src : Int) = s) with
  | false => rfl
  | true =>
    have : (ms.any fun x => decide ((x.2.src : Int) = s)) = true := List.any_eq_true.mpr ⟨x, hx, c⟩
    rw [this] at h
    cases h
theorem gone_end {s : Int} {L1 Y : List Ent} {dn : List Nat} (h : Gone s L1 dn Y) (all : ∀ x ∈ L1, x.k ∉ dn → (x.ms.any fun x => decide ((x.2.src : Int) = s)) = false) : Keyed (fun x y => y.ms = without x.ms s) L1 Y :=
  Keyed.impm h fun x hx y r => by
    rcases r with r | r
    · exact r.2
    · rw [r.2, without_none (all x hx r.1)]
theorem gone_ms {s : Int} {L1 Y : List Ent} {dn : List Nat} (h : Gone s L1 dn Y) {y : Ent} (hy : y ∈ Y) {z : Addr × Si24.Member} (hz : z ∈ y.ms) : ∃ x ∈ L1, x.k = y.k ∧ z ∈ x.ms := by
  obtain ⟨x, hx, hk, r | r⟩ := Keyed.mem h y hy
  · rw [r.2] at hz; exact ⟨x, hx, hk, (without_mem hz).1⟩
  · rw [r.2] at hz; exact ⟨x, hx, hk, hz⟩
/-- those that watch it -/
def watchE (s : Int) (L : List Ent) : List Nat := (L.filter fun e => e.ms.any fun x => decide ((x.2.src : Int) = s)).map (·.k)
theorem watchE_take {s : Int} {L : List Ent} {i : Nat} {e : Ent} (c : L[i]? = some e) : watchE s (L.take (i + 1)) = if (e.ms.any fun x => decide ((x.2.src : Int) = s)) = true then watchE s (L.take i) ++ [e.k] else watchE s (L.take i) := by
  unfold watchE
  rw [List.take_add_one, c, List.filter_append, List.map_append]
  show _ ++ List.map _ (List.filter _ [e]) = _
  by_cases q : (e.ms.any fun x => decide ((x.2.src : Int) = s)) = true
  · rw [if_pos q, List.filter_cons, if_pos q, List.filter_nil]; rfl
  · rw [if_neg q, List.filter_cons, if_neg q, List.filter_nil, List.map_nil, List.append_nil]
def spGone (C D : Addr) : Sp := fun vs H Q _ => ∃ (h : Ho) (z : Int), vs = [.ref h.p, .int z] ∧ HAt C D H h ∧ HGood h ∧ Done C D H h (.gone z) Q
theorem scGone : FnScope ["house", "source", "watching", "number"] ["house", "source"] (defScope sGone) := ⟨rfl, rfl, rfl, by decide +kernel, rfl, by decide +kernel, by decide +kernel⟩
theorem bkGone : BlkOk ["house", "source", "watching", "number"] (defScope sGone) (lcs [(".0", .local), ("number", .local), ("has_member", .globalImplicit), ("house", .free), ("source", .free)]) [("number", 3)] := ⟨rfl, by decide +kernel, by decide +kernel, by decide +kernel, by decide +kernel⟩
theorem ok_gone {f fS fH fR : Addr} {fd fdS fdH fdR : FuncData} (F : Fn K mg "gone" sGone ["house", "source"] f fd) (T : Txt K mg C D) (T2 : Txt2 K mg) (FS : Fn K mg "source_fits" sSourceFits ["source"] fS fdS)
    (FH : Fn K mg "has_member" sHasMember ["house", "number", "source"] fH fdH) (FR : Fn K mg "remove_member" sRemoveMember ["house", "number", "source"] fR fdR) : FnOk P w K mg base CX0 2 f fd ["house", "source"] (spGone C D) := by
  have GS : FnOk P w K mg base CX0 1 fS fdS ["source"] (spUnder 256) := ok_source_fits FS T
  have GH : FnOk P w K mg base CX0 1 fH fdH ["house", "number", "source"] (spHasMember C D) := ok_has_member FH T
  have GR : FnOk P w K mg base CX0 1 fR fdR ["house", "number", "source"] (spRemoveMember C D) := ok_remove_member FR T
  refine F.F.ok scGone (fun vs H Q E h => ?_) (fun cdv A outer s H vs Q E hr h => ?_)
  · obtain ⟨h, z, rfl, _⟩ := h
    rfl
  · obtain ⟨h, z, rfl, R, g, k⟩ := h
    have hu := hu_of hr
    refine ⟨_, pss_cons (ps_if (pt_not (pt_val (pe_call GS hr rfl FS.m FS.F.kp FS.b .nil pass0 (pa_cons (pv 1) pa_nil)))) (pss_one (ps_ret (pgi T2.gRANGE))) pss_nil)
      (pss_cons (ps_lock (ps_setLc (i := 2) (own := [("number", 3)]) (tt := tB (tCall (spHasMember C D) [] E0 (tCons (tVar 0) (tCons (tVar 3) (tCons (tVar 1) tNil))))) (te := tVar 3) rfl scGone.nd rfl rfl rfl (pi_keys (pe_fld (pv 0) rfl)) bkGone
          (fun _ _ _ _ _ => pg_name (i := 3) scGone.nd rfl (Or.inl rfl))
          (fun _ _ _ _ _ => pts_one (pt_val (pe_call GH hr rfl FH.m FH.F.kp FH.b .nil pass0 (pa_cons (pv 0) (pa_cons (pv 3) (pa_cons (pv 1) pa_nil))))))
          (fun _ _ _ _ _ => pv 3)))
      (pss_cons (ps_for PassesOwn.never rfl (pi_list (pv 2)) (pg_name (i := 3) scGone.nd rfl (Or.inl rfl)) (pss_one (ps_expr (pe_call GR hr rfl FR.m FR.F.kp FR.b .nil pass0 (pa_cons (pv 0) (pa_cons (pv 3) (pa_cons (pv 1) pa_nil)))))))
      (pss_cons (ps_asg pe_int (pg_sub (pe_fld (pv 0) rfl) (pv 1) set_list)) (pss_one (ps_ret (pe_callB call_len_seq (by rfl) T.blen PySem.boot_len (pa_cons (pv 2) pa_nil))))))), ?_⟩
    refine ⟨_, rfl, _, rfl, _, rfl, ?_⟩
    by_cases q1 : 0 ≤ z ∧ z < 256
    · rw [decide_eq_true q1]
      obtain ⟨zn, rfl⟩ : ∃ j : Nat, z = (j : Int) := ⟨z.toNat, by omega⟩
      have hz : zn < 256 := by omega
      refine iteF ⟨h.sd, .dK (kvsOf h.L), R.sds, True.intro, fun od => ?_⟩
      have RL := R.lock od
      obtain ⟨dp, hp⟩ := RL.ob
      refine ⟨_, rfl, h.p, D, dp, _, _, rfl, hp, T.clD, T.nSets, hf_sets _ _, h.sd, od, rfl, .inl ⟨_, upd_same, fun B hB => ?_⟩⟩
      refine lcl_keys (d := h.sd) (o := od) (kvs := kvsOf h.L) (fun i acc H2 => Same (upd H h.sd (.frz od (.dK (kvsOf h.L)))) H2 ∧ acc = ((watchE (zn : Int) (h.L.take i)).map fun n : Nat => V.int n)) ⟨same_new hB, rfl⟩ (fun i acc H2 _ _ q => q.1 _ _ upd_same) ?_ ?_
      · rintro i kk v acc H2 hi hD hac ⟨s2, rfl⟩
        obtain ⟨e, c, rfl, rfl⟩ := kvs_at hi
        have he := List.mem_of_getElem? c
        have hil : i < (kvsOf h.L).length := (List.getElem?_eq_some_iff.mp hi).1
        have hkz := kvs_size g.toHG0
        have ws := watchE_take (s := (zn : Int)) c
        refine ⟨rfl, _, rfl, _, rfl, _, rfl, h, _, e, (zn : Int), rfl, RL.same s2, g.toHG0, he, fun H3 s3 => ⟨_, rfl, ?_⟩⟩
        cases q : e.ms.any fun x => decide ((x.2.src : Int) = (zn : Int)) with
        | false =>
          rw [q, if_neg (by decide)] at ws
          exact iteF ⟨_, s3 _ _ hD, Nat.le_succ_of_le hac, s2.trans s3, by rw [ws]⟩
        | true =>
          rw [q, if_pos rfl] at ws
          refine iteT ⟨_, rfl, _, s3 _ _ hD, by omega, _, upd_same, (by rw [List.length_append]; show _ + 1 ≤ _; omega), fun b o y => by rw [upd_ne (ne_of_none y hB)]; exact s3 _ _ (s2 b o y), ?_⟩
          rw [ws, List.map_append]; rfl
      · rintro acc H2 hD ⟨s2, rfl⟩
        have ekl : (kvsOf h.L).length = h.L.length := List.length_map _
        rw [ekl, List.take_length] at hD
        have nB : B ≠ h.sd := (ne_of_none upd_same hB).symm
        refine ⟨s2 _ _ upd_same, ?_⟩
        have hB0 : H B = none := by
          cases q : H B with
          | none => rfl
          | some o => rw [upd_ne nB, q] at hB; cases hB
        have s3 : Same H (upd H2 h.sd (.dK (kvsOf h.L))) := fun b o y => by
          by_cases x : b = h.sd
          · subst x
            rw [R.sds] at y
            rw [upd_same]
            exact y
          · rw [upd_ne x]
            exact s2 _ _ (by rw [upd_ne x]; exact y)
        have hB3 : (upd H2 h.sd (.dK (kvsOf h.L))) B = some (.lst ((watchE (zn : Int) h.L).map fun n : Nat => V.int n)) := by rw [upd_ne nB]; exact hD
        generalize upd H2 h.sd (.dK (kvsOf h.L)) = H3 at s3 hB3 ⊢
        have R3 := R.same s3
        have wnd : (watchE (zn : Int) h.L).Nodup := List.Sublist.nodup (List.Sublist.map _ List.filter_sublist) g.good.nd
        refine ⟨_, rfl, B, rfl, ⟨_, SqL.of hB3⟩, ?_⟩
        refine for_list (K := K) (a := B) (xs := (watchE (zn : Int) h.L).map fun n : Nat => V.int n) (fun i σ H4 => ∃ (v : Option V) (L2 : List Ent), σ = [some (.ref h.p), some (.int zn), some (.ref B), v] ∧ Gone (zn : Int) h.L ((watchE (zn : Int) h.L).take i) L2 ∧ HAt C D H4 { h with L := L2 } ∧ HG0 { h with L := L2 } ∧
            (∀ b o, H3 b = some o → b ≠ h.sd → H4 b = some o) ∧ ∀ x ∈ L2, Own h x.l ∨ H x.l = none)
          ⟨_, h.L, rfl, gone_zero _ _, R3, g.toHG0, fun b o q _ => q, fun x hx => .inl (own_lst hx)⟩ (fun i σ H4 _ ⟨_, _, _, _, _, _, y, _⟩ => SqL.of (y _ _ hB3 nB)) ?_ ?_
        · rintro i x σ H4 hi ⟨v, L2, rfl, th, R4, g4, kp4, ow4⟩
          obtain ⟨n, c, rfl⟩ := ints_at hi
          have hn := List.mem_of_getElem? c
          obtain ⟨e, he, rfl⟩ := List.mem_map.mp hn
          have heL := (List.mem_filter.mp he).1
          have hy : e ∈ L2 := gone_at th heL (take_not wnd c)
          refine ⟨_, rfl, _, rfl, _, rfl, { h with L := L2 }, e, (zn : Int), rfl, R4, g4, hy, fun l H5 hl R5 kp5 => ?_⟩
          obtain ⟨n1, n2, n3⟩ := R4.new_l hl
          have hl0 : H l = none := by
            cases q : H l with
            | none => rfl
            | some o =>
              by_cases x : l = h.sd
              · rw [x] at hl
                rw [R4.sds] at hl
                cases hl
              · rw [kp4 l o (s3 l o q) x] at hl
                cases hl
          refine ⟨_, putE L2 e.k l (without e.ms (zn : Int)), rfl, ?_, R5, without_good g4 hy _ n1 n2, fun b o q n => kp5 b o (kp4 b o q n) n, fun x hx => ?_⟩
          · rw [List.take_add_one, c]
            exact gone_step g.good th heL l
          · obtain ⟨y, hy, _, q | q⟩ := mem_putE hx
            · rw [q.2.1]; exact .inr hl0
            · rw [q.2]; exact ow4 y hy
        · rintro σ H4 ⟨v, L2, rfl, th, R4, g4, kp4, ow4⟩
          rw [List.length_map, List.take_length] at th
          have ke := gone_end th fun x hx n => by
            cases q : x.ms.any fun x => decide ((x.2.src : Int) = (zn : Int)) with
            | false => rfl
            | true => exact absurd (List.mem_map.mpr ⟨x, List.mem_filter.mpr ⟨hx, q⟩, rfl⟩) n
          obtain ⟨dp4, hp4⟩ := R4.ob
          have hB4 := kp4 _ _ hB3 nB
          have nBl : B ≠ h.lv := (ne_of_none R.lvl hB0).symm
          refine ⟨_, rfl, h.p, D, dp4, _, _, rfl, hp4, T.clD, T.nLevels, hf_levels _ _, _, rfl, h.lv, _, _, zn, rfl, rfl, R4.lvl, ixN_nat (by rw [List.length_map]; have := g.llen; show zn < h.lvs.length; omega), ?_⟩
          refine ⟨_, rfl, B, _, rfl, .inl (SqL.of (show upd H4 h.lv _ B = some _ by rw [upd_ne nBl]; exact hB4)), ?_⟩
          have el : ((watchE (zn : Int) h.L).map fun n : Nat => V.int n).length = (h.L.filter fun e => e.ms.any fun x => decide ((x.2.src : Int) = (zn : Int))).length := by
            unfold watchE
            rw [List.length_map, List.length_map]
          rw [el]
          refine k.to (h' := { h with lvs := h.lvs.set zn 0, L := L2 }) (plain_gone g.toHG0 hz ke) rfl (R4.level g4.lvn zn 0) ⟨g4.level zn (by decide), fun x hx y hy hs => ?_⟩ ⟨fun b o q n => ?_, fun b o => ?_⟩
          · obtain ⟨x', hx', hk, hy'⟩ := gone_ms th hx hy
            obtain ⟨e', he', q⟩ := g.kid x' hx' y hy' hs
            obtain ⟨e2, h2, k2, _⟩ := ke.imem e' he'
            exact ⟨e2, h2, by rw [← k2]; exact q⟩
          · rw [upd_ne (fun x => n (by rw [x]; exact own_lv h))]
            exact kp4 b o (s3 b o q) fun x => n (by rw [x]; exact own_sd h)
          · rcases o with q | q | q | ⟨x, hx, q⟩ | ⟨x, hx, y, hy, q⟩
            · exact .inl (.inl q)
            · exact .inl (.inr (.inl q))
            · exact .inl (.inr (.inr (.inl q)))
            · rw [q]; exact ow4 x hx
            · obtain ⟨x', hx', _, hy'⟩ := gone_ms th hx hy
              rw [q]; exact .inl (own_mem hx' hy')
    · rw [decide_eq_false q1]
      exact iteT (k.no (plain_gone_1 q1) R g (Same.refl _))
end
end Rs
namespace Rs
open PySem L2
section
variable {P : Program} {w : World} {K : PySem.W.Frag} {mg : Str → Option Value} {base : Heap} {C D : Addr}
/-! ### ready -/
def spReady (C D : Addr) : Sp := fun vs H Q _ => ∃ (h : Ho) (k : Int), vs = [.ref h.p, .int k] ∧ HAt C D H h ∧ HGood h ∧ Done C D H h (.isReady k) Q
theorem scReady : FnScope ["house", "number"] ["house", "number"] (defScope sReady) := ⟨rfl, rfl, rfl, by decide +kernel, rfl, by decide +kernel, by decide +kernel⟩
theorem ok_ready {f fR : Addr} {fd fdR : FuncData} (F : Fn K mg "ready" sReady ["house", "number"] f fd) (T : Txt K mg C D) (T2 : Txt2 K mg) (FR : Fn K mg "ready_sets" sReadySets ["house"] fR fdR)
    (GR : FnOk P w K mg base CX0 4 fR fdR ["house"] (spReadySets C D)) : FnOk P w K mg base CX0 5 f fd ["house", "number"] (spReady C D) := by
  refine F.F.ok scReady (fun vs H Q E h => ?_) (fun cdv A outer s H vs Q E hr h => ?_)
  · obtain ⟨h, k, rfl, _⟩ := h
    rfl
  · obtain ⟨h, kk, rfl, R, g, k⟩ := h
    have hu := hu_of hr
    obtain ⟨dp, hp⟩ := R.ob
    refine ⟨_, pss_cons (ps_if (pt_cmp (pc_dnotin hu (pv 1) (pe_fld (pv 0) rfl)) (by with_unfolding_all rfl)) (pss_one (ps_ret (pgi T2.gTHERE))) pss_nil)
      (pss_one (ps_ret (pe_ifExp (pt_cmp (pc_din hu (pv 1) (pe_call GR hr rfl FR.m FR.F.kp FR.b .nil pass0 (pa_cons (pv 0) pa_nil))) (by with_unfolding_all rfl)) pe_int pe_int))), ?_⟩
    refine ⟨_, rfl, _, rfl, h.p, D, dp, _, _, rfl, hp, T.clD, T.nSets, hf_sets _ _, h.sd, _, rfl, R.get kk, _, rfl, ?_⟩
    rw [valV_has_iff]
    by_cases n : ∃ e ∈ h.L, kk = (e.k : Int)
    · rw [decide_eq_true n]
      obtain ⟨e, he, rfl⟩ := n
      refine iteF ⟨_, rfl, _, rfl, h, rfl, R, g.toHG0, fun r S H1 hr0 hS rS s1 => ?_⟩
      refine ⟨r, _, rfl, .inl ⟨_, Sum.inl (e.k : Int), .inl hS, rfl, rfl⟩, _, rfl, ?_⟩
      rw [valV_rkv]
      have pl := plain_ready g.toHG0 he
      have eq : decide (e.k ∈ S) = h.st.isReady e.k := Bool.eq_iff_iff.mpr (by rw [decide_eq_true_eq]; exact rS.2 e.k)
      rw [eq]
      cases c : h.st.isReady e.k with
      | true =>
        rw [c, if_pos rfl] at pl
        exact iteT (k.no pl R g s1)
      | false =>
        rw [c, if_neg (by decide)] at pl
        exact iteF (k.no pl R g s1)
    · rw [decide_eq_false n]
      exact iteT (k.no (plain_ready_no g.toHG0 n) R g (Same.refl _))
/-! ### what a call that tells has done -/
def ansL (a : Si24.Ans) : List Int := a.code :: a.more.map fun n : Nat => (n : Int)
def DoneL (C D : Addr) (H : Hp) (h : Ho) (c : Si24.Call) (Q : VK) : Prop := ∀ (h' : Ho) (H' : Hp) (r : Addr), h'.p = h.p → HAt C D H' h' → HGood h' → h'.st = (Si24.plain h.st c).1 → Fram H h H' h' →
  (∀ b o, H b = some o → ¬ Own h b → b ≠ r) → H' r = some (.lst ((ansL (Si24.plain h.st c).2).map V.int)) → Q (.ref r) H'
theorem DoneL.no {H : Hp} {h : Ho} {c : Si24.Call} {Q : VK} (d : DoneL C D H h c Q) {z : Int} (q : Si24.plain h.st c = (h.st, Si24.say z)) {H' : Hp} (R : HAt C D H h) (g : HGood h) (sm : Same H H') {r : Addr} (hr : H' r = none) : Q (.ref r) (upd H' r (.lst [.int z])) := by
  have s2 : Same H (upd H' r (.lst [.int z])) := sm.trans (same_new hr)
  refine d h _ r rfl (R.same s2) g (by rw [q]) ⟨fun b o e _ => s2 b o e, fun b o => .inl o⟩ (fun b o e _ => ne_of_none (sm b o e) hr) ?_
  rw [upd_same, q]
  rfl
/-! ### told -/
def spTold (C D : Addr) : Sp := fun vs H Q _ => ∃ (h : Ho) (k : Int), vs = [.ref h.p, .int k] ∧ HAt C D H h ∧ HGood h ∧ DoneL C D H h (.told k) Q
theorem scTold : FnScope ["house", "number", "numbers", "member", "sleeps"] ["house", "number"] (defScope sTold) := ⟨rfl, rfl, rfl, by decide +kernel, rfl, by decide +kernel, by decide +kernel⟩
def intsV (l : List Nat) : List V := l.map fun n : Nat => V.int (n : Int)
theorem intsV_append (l m : List Nat) : intsV (l ++ m) = intsV l ++ intsV m := List.map_append
theorem intsV_len (l : List Nat) : (intsV l).length = l.length := List.length_map _
theorem ansL_V (a : Si24.Ans) : (ansL a).map V.int = [V.int a.code] ++ intsV a.more := by
  unfold ansL intsV
  rw [List.map_cons, List.map_map]; rfl
theorem flat_len {α : Type} (f : α → List Nat) {n : Nat} : ∀ (l : List α), (∀ x ∈ l, (f x).length = n) → (l.flatMap f).length = n * l.length
  | [], _ => by rw [List.flatMap_nil]; simp
  | x :: l, h => by
    rw [List.flatMap_cons, List.length_append, h x List.mem_cons_self, flat_len f l fun y hy => h y (List.mem_cons_of_mem _ hy), List.length_cons, Nat.mul_succ, Nat.add_comm]
theorem toldOf_V (m : Si24.Member) : intsV (toldOf m) = [V.int (m.src : Int), V.int (m.bits : Int), V.int (modeV m.mode), V.int (m.data : Int), V.int (m.risen : Int), V.int (if m.sleeps = true then 1 else 0)] := by
  obtain ⟨s, b, md, d, r, z⟩ := m
  cases md <;> cases z <;> rfl
theorem ok_told {f : Addr} {fd : FuncData} (F : Fn K mg "told" sTold ["house", "number"] f fd) (T : Txt K mg C D) (T2 : Txt2 K mg) : FnOk P w K mg base CX0 1 f fd ["house", "number"] (spTold C D) := by
  refine F.F.ok scTold (fun vs H Q E h => ?_) (fun cdv A outer s H vs Q E hr h => ?_)
  · obtain ⟨h, k, rfl, _⟩ := h
    rfl
  · obtain ⟨h, kk, rfl, R, g, k⟩ := h
    have hu := hu_of hr
    obtain ⟨dp, hp⟩ := R.ob
    refine ⟨_, pss_cons (ps_if (pt_cmp (pc_dnotin hu (pv 1) (pe_fld (pv 0) rfl)) (by with_unfolding_all rfl)) (pss_one (ps_ret (pe_lst (pa_cons (pgi T2.gTHERE) pa_nil)))) pss_nil)
      (pss_cons (ps_set (i := 2) scTold.nd rfl (Or.inl rfl) (pe_lst pa_nil))
      (pss_cons (ps_for PassesOwn.never rfl (pi_list (pe_dget hu (pe_fld (pv 0) rfl) (pv 1) (fun _ _ => rfl))) (pg_name (i := 3) scTold.nd rfl (Or.inl rfl))
        (pss_cons (ps_set (i := 4) scTold.nd rfl (Or.inl rfl) (pe_ifExp (pt_val (pe_fld (pv 3) rfl)) pe_int pe_int))
        (pss_one (ps_expr (pe_bm PySem.F.plainAttrs_list PySem.F.slot_list_extend PySem.F.type_list_extend mt_extend (pv 2)
          (pa_cons (pe_lst (pa_cons (pe_fld (pv 3) rfl) (pa_cons (pe_fld (pv 3) rfl) (pa_cons (pe_fld (pv 3) rfl) (pa_cons (pe_fld (pv 3) rfl) (pa_cons (pe_fld (pv 3) rfl) (pa_cons (pv 4) pa_nil))))))) pa_nil))))))
      (pss_one (ps_ret (pe_op op_cat (pe_lst (pa_cons (pe_callB call_len_seq (by rfl) T.blen PySem.boot_len (pa_cons (pe_dget hu (pe_fld (pv 0) rfl) (pv 1) (fun _ _ => rfl)) pa_nil)) pa_nil)) (pv 2)))))), ?_⟩
    refine ⟨_, rfl, _, rfl, h.p, D, dp, _, _, rfl, hp, T.clD, T.nSets, hf_sets _ _, h.sd, _, rfl, R.get kk, _, rfl, ?_⟩
    rw [valV_has_iff]
    by_cases n : ∃ e ∈ h.L, kk = (e.k : Int)
    · rw [decide_eq_true n]
      obtain ⟨e, he, rfl⟩ := n
      have hfew := g.few e he
      have hsz : 1000 < sizeLine := by decide
      refine iteF ⟨Nat.zero_le _, fun nm hnm => ?_⟩
      have s1 : Same H (upd H nm (.lst [])) := same_new hnm
      have R1 := R.same s1
      obtain ⟨dp1, hp1⟩ := R1.ob
      refine ⟨_, rfl, h.p, D, dp1, _, _, rfl, hp1, T.clD, T.nSets, hf_sets _ _, _, rfl, h.sd, _, rfl, R1.get_at g.toHG0 he, e.l, rfl, ⟨_, SqL.of (R1.lst e he)⟩, ?_⟩
      refine for_list (K := K) (a := e.l) (xs := e.ms.map fun x => V.ref x.1) (fun i σ H' => ∃ v3 v4, σ = [some (.ref h.p), some (.int e.k), some (.ref nm), v3, v4] ∧ Same H H' ∧ H' nm = some (.lst (intsV ((e.ms.take i).flatMap fun x => toldOf x.2))))
        ⟨_, _, rfl, s1, upd_same⟩ (fun i σ H' _ ⟨_, _, _, sm, _⟩ => SqL.of (sm _ _ (R.lst e he))) ?_ ?_
      · rintro i x σ H' hi ⟨v3, v4, rfl, sm, hn⟩
        obtain ⟨y, c, rfl⟩ := ref_at hi
        obtain ⟨dx, hy⟩ := R.mem e he y (List.mem_of_getElem? c)
        have hy := sm _ _ hy
        have hl : (intsV ((e.ms.take i).flatMap fun x => toldOf x.2)).length ≤ 384 := by
          rw [intsV_len, flat_len (n := 6) _ _ fun x _ => rfl, List.length_take]
          omega
        have es : intsV ((e.ms.take (i + 1)).flatMap fun x => toldOf x.2) = intsV ((e.ms.take i).flatMap fun x => toldOf x.2) ++ intsV (toldOf y.2) := by
          rw [List.take_add_one, c, List.flatMap_append, intsV_append]
          show _ ++ intsV (List.flatMap _ [y]) = _
          rw [List.flatMap_cons, List.flatMap_nil, List.append_nil]
        rw [toldOf_V] at es
        refine ⟨_, rfl, y.1, C, dx, _, _, rfl, hy, T.clC, T.nSleeps, mfR_sleeps, _, rfl, ?_⟩
        cases hz : y.2.sleeps
        all_goals
          first | refine iteT ?_ | refine iteF ?_
          refine ⟨_, rfl, .inl ⟨rfl, _, SqL.of hn⟩, _, rfl, y.1, C, dx, _, _, rfl, hy, T.clC, T.nSource, mfR_source, _, rfl, y.1, C, dx, _, _, rfl, hy, T.clC, T.nBits, mfR_bits, _, rfl, y.1, C, dx, _, _, rfl, hy, T.clC, T.nMode, mfR_mode,
            _, rfl, y.1, C, dx, _, _, rfl, hy, T.clC, T.nData, mfR_data, _, rfl, y.1, C, dx, _, _, rfl, hy, T.clC, T.nRisen, mfR_risen, _, rfl, (by show 6 ≤ sizeLine; decide), fun q hq => ?_⟩
          refine ⟨nm, q, _, _, rfl, rfl, (by rw [upd_ne (ne_of_none hn hq)]; exact hn), upd_same, (by show _ + 6 ≤ _; omega), ?_⟩
          refine ⟨_, _, rfl, fun b o z => ?_, ?_⟩
          · rw [upd_ne (ne_of_none z hnm), upd_ne (ne_of_none (sm b o z) hq)]; exact sm b o z
          · rw [upd_same, es, hz]; rfl
      · rintro σ H' ⟨v3, v4, rfl, sm, hn⟩
        rw [List.length_map, List.take_length] at hn
        have hl : (intsV (e.ms.flatMap fun x => toldOf x.2)).length ≤ 384 := by
          rw [intsV_len, flat_len (n := 6) _ _ fun x _ => rfl]
          omega
        have R2 := R.same sm
        obtain ⟨dp2, hp2⟩ := R2.ob
        refine ⟨_, rfl, h.p, D, dp2, _, _, rfl, hp2, T.clD, T.nSets, hf_sets _ _, _, rfl, h.sd, _, rfl, R2.get_at g.toHG0 he, e.l, _, rfl, .inl (SqL.of (R2.lst e he)), (by show 1 ≤ sizeLine; decide), fun q hq => ?_⟩
        have hn2 : (upd H' q (.lst [V.int (e.ms.map fun x => V.ref x.1).length])) nm = some (.lst (intsV (e.ms.flatMap fun x => toldOf x.2))) := by rw [upd_ne (ne_of_none hn hq)]; exact hn
        refine ⟨_, rfl, q, nm, _, _, rfl, rfl, upd_same, hn2, (by show 1 + _ ≤ _; omega), fun r hr => ?_⟩
        have s2 : Same H' (upd (upd H' q (.lst [V.int (e.ms.map fun x => V.ref x.1).length])) r (.lst ([V.int (e.ms.map fun x => V.ref x.1).length] ++ intsV (e.ms.flatMap fun x => toldOf x.2)))) := (same_new hq).trans (same_new hr)
        have s3 := sm.trans s2
        refine k h _ r rfl (R.same s3) g (by rw [plain_told g.toHG0 he]) ⟨fun b o z _ => s3 b o z, fun b o => .inl o⟩ (fun b o z _ => ne_of_none ((same_new hq) _ _ (sm b o z)) hr) ?_
        rw [upd_same, plain_told g.toHG0 he, ansL_V, List.length_map]
    · rw [decide_eq_false n]
      exact iteT ⟨by show 1 ≤ sizeLine; decide, fun r hr => k.no (plain_told_no g.toHG0 n) R g (Same.refl _) hr⟩
end
end Rs
namespace Rs
open PySem L2
section
variable {P : Program} {w : World} {K : PySem.W.Frag} {mg : Str → Option Value} {base : Heap} {C D : Addr}
/-! ### had_its_turn -/
def turn (m : Si24.Member) : Si24.Member :=
  match m.mode with
  | .level => m
  | .edge => { m with risen := 0 }
  | .once => { m with sleeps := true }
def spHadTurn (C : Addr) : Sp := fun vs H Q _ => ∃ (a dx : Addr) (m : Si24.Member), vs = [.ref a] ∧ H a = some (.ins C dx (mf m)) ∧ ∀ H', H' a = some (.ins C dx (mf (turn m))) → (∀ b o, H b = some o → b ≠ a → H' b = some o) → Q .non H'
theorem scHadTurn : FnScope ["member"] ["member"] (defScope sHadTurn) := ⟨rfl, rfl, rfl, by decide +kernel, rfl, by decide +kernel, by decide +kernel⟩
theorem ok_had_its_turn {f : Addr} {fd : FuncData} (F : Fn K mg "had_its_turn" sHadTurn ["member"] f fd) (T : Txt K mg C D) : FnOk P w K mg base CX0 1 f fd ["member"] (spHadTurn C) := by
  refine F.F.ok scHadTurn (fun vs H Q E h => ?_) (fun cdv A outer s H vs Q E hr h => ?_)
  · obtain ⟨a, dx, m, rfl, _⟩ := h
    rfl
  · obtain ⟨a, dx, m, rfl, ha, k⟩ := h
    refine ⟨_, pss_cons (ps_if (pt_cmpR op_eq (pe_fld (pv 0) rfl) (pgi T.gEDGE) (nomark _)) (pss_one (ps_fld (pv 0) pe_int rfl)) pss_nil)
      (pss_one (ps_if (pt_cmpR op_eq (pe_fld (pv 0) rfl) (pgi T.gONCE) (nomark _)) (pss_one (ps_fld (pv 0) pe_bl rfl)) pss_nil)), ?_⟩
    have l6 : (mf m).length < 1000 := by rw [mf_len]; decide
    obtain ⟨s, b, md, d, r, z⟩ := m
    cases md with
    | level =>
      refine ⟨_, rfl, a, C, dx, _, _, rfl, ha, T.clC, T.nMode, mfR_mode, rfl, _, rfl, iteF ?_⟩
      refine ⟨_, rfl, a, C, dx, _, _, rfl, ha, T.clC, T.nMode, mfR_mode, rfl, _, rfl, iteF ?_⟩
      exact k H ha fun b o q _ => q
    | edge =>
      refine ⟨_, rfl, a, C, dx, _, _, rfl, ha, T.clC, T.nMode, mfR_mode, rfl, _, rfl, iteT ?_⟩
      refine ⟨_, rfl, a, C, dx, _, rfl, ha, T.clC, T.nRisen, l6, ?_⟩
      have e : putF "risen" (.int 0) (mf ⟨s, b, .edge, d, r, z⟩) = mf (turn ⟨s, b, .edge, d, r, z⟩) := mfR_putRisen 0
      rw [e]
      refine ⟨_, rfl, a, C, dx, _, _, rfl, upd_same, T.clC, T.nMode, mfR_mode, rfl, _, rfl, iteF ?_⟩
      exact k _ upd_same fun b o q n => by rw [upd_ne n]; exact q
    | once =>
      refine ⟨_, rfl, a, C, dx, _, _, rfl, ha, T.clC, T.nMode, mfR_mode, rfl, _, rfl, iteF ?_⟩
      refine ⟨_, rfl, a, C, dx, _, _, rfl, ha, T.clC, T.nMode, mfR_mode, rfl, _, rfl, iteT ?_⟩
      refine ⟨_, rfl, a, C, dx, _, rfl, ha, T.clC, T.nSleeps, l6, ?_⟩
      have e : putF "sleeps" (.bl true) (mf ⟨s, b, .once, d, r, z⟩) = mf (turn ⟨s, b, .once, d, r, z⟩) := mfR_putSleeps true
      rw [e]
      exact k _ upd_same fun b o q n => by rw [upd_ne n]; exact q
/-! ### those that are taken -/
theorem takeA_snoc (sh : Si24.Member → Nat) : ∀ (n : Nat) (l : List (Addr × Si24.Member)) (x : Addr × Si24.Member), takeA sh n (l ++ [x]) =
    if sh x.2 = 0 ∨ n ≤ (takeA sh n l).2.length then ((takeA sh n l).1 ++ [x], (takeA sh n l).2) else ((takeA sh n l).1, (takeA sh n l).2 ++ [x])
  | n, [], x => by
    show takeA sh n [x] = _
    unfold takeA
    by_cases q : sh x.2 = 0 ∨ n = 0
    · rw [if_pos q, if_pos (by rcases q with q | q; exact .inl q; exact .inr (by show n ≤ 0; omega))]
      simp only [takeA]
      rfl
    · rw [if_neg q, if_neg (by rintro (z | z); exact q (.inl z); exact q (.inr (by have : n ≤ 0 := z; omega)))]
      simp only [takeA]
      rfl
  | n, y :: l, x => by
    have h1 := takeA_snoc sh n l x
    have h2 := takeA_snoc sh (n - 1) l x
    rw [List.cons_append]
    unfold takeA
    by_cases q : sh y.2 = 0 ∨ n = 0
    · rw [if_pos q, if_pos q, h1]
      by_cases z : sh x.2 = 0 ∨ n ≤ (takeA sh n l).2.length
      · rw [if_pos z, if_pos z]; rfl
      · rw [if_neg z, if_neg z]
    · rw [if_neg q, if_neg q, h2]
      have n0 : n ≠ 0 := fun z => q (.inr z)
      by_cases z : sh x.2 = 0 ∨ n - 1 ≤ (takeA sh (n - 1) l).2.length
      · rw [if_pos z, if_pos (by rcases z with z | z; exact .inl z; exact .inr (by rw [List.length_cons]; omega))]
      · rw [if_neg z, if_neg (by rintro (y | y); exact z (.inl y); exact z (.inr (by rw [List.length_cons] at y; omega)))]; rfl
theorem takeA_perm (sh : Si24.Member → Nat) : ∀ (n : Nat) (l : List (Addr × Si24.Member)), ((takeA sh n l).1 ++ (takeA sh n l).2).Perm l
  | n, [] => by unfold takeA; exact List.Perm.refl _
  | n, x :: l => by
    unfold takeA
    by_cases q : sh x.2 = 0 ∨ n = 0
    · rw [if_pos q]
      exact List.Perm.cons x (takeA_perm sh n l)
    · rw [if_neg q]
      exact List.perm_middle.trans (List.Perm.cons x (takeA_perm sh (n - 1) l))
theorem takeA_shows (sh : Si24.Member → Nat) (n : Nat) (l : List (Addr × Si24.Member)) {x : Addr × Si24.Member} (h : x ∈ (takeA sh n l).2) : sh x.2 ≠ 0 := by
  rw [takeA_taken] at h
  have := (List.mem_filter.mp (List.mem_of_mem_take h)).2
  exact bne_iff_ne.mp this
theorem turn_after {h : Ho} (g : HG0 h) {e : Ent} (he : e ∈ h.L) {x : Addr × Si24.Member} (hx : x ∈ e.ms) (sh : h.st.shown x.2 ≠ 0) : turn x.2 = after x.2 := by
  have lev := g.lev e he x hx
  obtain ⟨a, s, b, md, d, r, z⟩ := x
  have hz : z = false := by
    by_cases q : 256 ≤ s
    · exact (lev q).2
    · cases z with
      | false => rfl
      | true =>
        rw [shown_eq (st_len h)] at sh
        unfold showsR at sh
        rw [if_neg (show ¬ Si24.SOURCES ≤ s from q), if_pos rfl] at sh
        exact absurd rfl sh
  subst hz
  by_cases q : 256 ≤ s
  · have hm : md = .level := (lev q).1
    subst hm
    unfold turn after
    simp only [show ¬ (s < Si24.SOURCES) from by show ¬ s < 256; omega, false_and, if_false]
    rfl
  · unfold turn after
    have q' : s < Si24.SOURCES := by show s < 256; omega
    cases md with
    | level => simp only [q', true_and]; rfl
    | edge => simp only [q', true_and, if_true]; rfl
    | once => simp only [q', true_and]; rfl
/-- a set behind a wait -/
def waited (h : Ho) (n : Nat) (e : Ent) : List (Addr × Si24.Member) := (takeA h.st.shown n e.ms).1 ++ (takeA h.st.shown n e.ms).2.map fun x => (x.1, after x.2)
theorem waited_fst (h : Ho) (n : Nat) (e : Ent) : ((waited h n e).map (·.1)).Perm (e.ms.map (·.1)) := by
  have := (takeA_perm h.st.shown n e.ms).map (·.1)
  unfold waited
  rw [List.map_append, List.map_map]
  rw [List.map_append] at this
  exact this
theorem waited_src (h : Ho) (n : Nat) (e : Ent) : ((waited h n e).map (·.2.src)).Perm (e.ms.map (·.2.src)) := by
  have := (takeA_perm h.st.shown n e.ms).map (·.2.src)
  unfold waited
  rw [List.map_append, List.map_map]
  rw [List.map_append] at this
  exact this
theorem takeA_mem1 {sh : Si24.Member → Nat} {n : Nat} {l : List (Addr × Si24.Member)} {x : Addr × Si24.Member} (h : x ∈ (takeA sh n l).1) : x ∈ l := (takeA_perm sh n l).subset (List.mem_append_left _ h)
theorem takeA_mem2 {sh : Si24.Member → Nat} {n : Nat} {l : List (Addr × Si24.Member)} {x : Addr × Si24.Member} (h : x ∈ (takeA sh n l).2) : x ∈ l := (takeA_perm sh n l).subset (List.mem_append_right _ h)
theorem waited_mem {h : Ho} {n : Nat} {e : Ent} {y : Addr × Si24.Member} (hy : y ∈ waited h n e) : ∃ x ∈ e.ms, y.1 = x.1 ∧ y.2.src = x.2.src ∧ (y = x ∨ y.2 = after x.2) := by
  rcases List.mem_append.mp hy with q | q
  · exact ⟨y, takeA_mem1 q, rfl, rfl, .inl rfl⟩
  · obtain ⟨x, hx, rfl⟩ := List.mem_map.mp q
    exact ⟨x, takeA_mem2 hx, rfl, rfl, .inr rfl⟩
theorem good_wait {h : Ho} (g : HGood h) {e : Ent} (he : e ∈ h.L) {l : Addr} (n : Nat) (nl : ∀ x ∈ h.L, x.l ≠ l) (nlv : l ≠ h.lv) : HGood { h with L := putE h.L e.k l (waited h n e) } := by
  refine g.put (g.toHG0.put (fun x hx _ => nl x hx) nlv ((waited_fst h n e).nodup_iff.mpr (g.mnd e he)) (fun x hx hk a ha b hb => ?_) ?_ (fun x hx hs => ?_) ((waited_src h n e).nodup_iff.mpr (g.one e he))) fun x hx hs => ?_
  · obtain ⟨a', ha', q, _⟩ := waited_mem ha
    rw [q]
    exact g.mne e he x hx (Ne.symm hk) a' ha' b hb
  · have := (waited_fst h n e).length_eq
    rw [List.length_map, List.length_map] at this
    rw [this]; exact g.few e he
  · obtain ⟨x', hx', _, q, r⟩ := waited_mem hx
    rw [q] at hs
    have lv := g.lev e he x' hx' hs
    rcases r with r | r
    · rw [r]; exact lv
    · rw [r]
      refine ⟨lv.1, ?_⟩
      show (x'.2.mode == .once) = false
      rw [lv.1]; rfl
  · obtain ⟨x', hx', _, q, r⟩ := waited_mem hx
    rw [q] at hs ⊢
    exact g.kid e he x' hx' hs
theorem waited_refs (h : Ho) (n : Nat) (e : Ent) : ((waited h n e).map fun x => V.ref x.1) = ((takeA h.st.shown n e.ms).1.map fun x => V.ref x.1) ++ ((takeA h.st.shown n e.ms).2.map fun x => V.ref x.1) := by
  unfold waited
  rw [List.map_append, List.map_map]; rfl
end
end Rs
namespace Rs
open PySem L2
section
variable {P : Program} {w : World} {K : PySem.W.Frag} {mg : Str → Option Value} {base : Heap} {C D : Addr}
theorem Upto.free {h : Ho} {f : Si24.Member → Si24.Member} {H0 H' : Hp} {A : List Addr} (u : Upto C h f H0 A H') {l : Addr} (hl : H' l = none) : H0 l = none := by
  cases q : H0 l with
  | none => rfl
  | some o =>
    by_cases z : l ∈ A
    · obtain ⟨e, he, x, hx, rfl⟩ := u.sub l z
      obtain ⟨dx, c⟩ := u.nw e he x hx z
      rw [c] at hl
      cases hl
    · rw [u.kp l o q z] at hl
      cases hl
/-! ### wait -/
abbrev tkA (h : Ho) (n : Nat) (ms : List (Addr × Si24.Member)) := takeA h.st.shown n ms
def toldW (h : Ho) (l : List (Addr × Si24.Member)) : List Nat := l.flatMap fun x => [x.2.data, h.st.shown x.2]
theorem toldW_snoc (h : Ho) (l : List (Addr × Si24.Member)) (x : Addr × Si24.Member) : intsV (toldW h (l ++ [x])) = intsV (toldW h l) ++ [V.int (x.2.data : Int), V.int (h.st.shown x.2 : Int)] := by
  unfold toldW
  rw [List.flatMap_append, intsV_append]
  rfl
theorem toldW_len (h : Ho) (l : List (Addr × Si24.Member)) : (intsV (toldW h l)).length = 2 * l.length := by
  rw [intsV_len]
  exact flat_len (n := 2) _ _ fun x _ => rfl
theorem tk_len (h : Ho) (n : Nat) (ms : List (Addr × Si24.Member)) : (tkA h n ms).1.length + (tkA h n ms).2.length = ms.length := by
  have := (takeA_perm h.st.shown n ms).length_eq
  rw [List.length_append] at this
  exact this
def spWait (C D : Addr) : Sp := fun vs H Q _ => ∃ (h : Ho) (k z : Int), vs = [.ref h.p, .int k, .int z] ∧ HAt C D H h ∧ HGood h ∧ DoneL C D H h (.wait k z) Q
theorem scWait : FnScope ["house", "number", "most", "now_ready", "taken", "others", "numbers", "member", "shown"] ["house", "number", "most"] (defScope sWait) := ⟨rfl, rfl, rfl, by decide +kernel, rfl, by decide +kernel, by decide +kernel⟩
theorem ok_wait {f fR fS fT : Addr} {fd fdR fdS fdT : FuncData} (F : Fn K mg "wait" sWait ["house", "number", "most"] f fd) (T : Txt K mg C D) (T2 : Txt2 K mg) (FR : Fn K mg "ready_sets" sReadySets ["house"] fR fdR)
    (GR : FnOk P w K mg base CX0 4 fR fdR ["house"] (spReadySets C D)) (FS : Fn K mg "shows" sShows ["house", "member", "ready"] fS fdS) (GS : FnOk P w K mg base CX0 2 fS fdS ["house", "member", "ready"] (spShows C D))
    (FT : Fn K mg "had_its_turn" sHadTurn ["member"] fT fdT) : FnOk P w K mg base CX0 5 f fd ["house", "number", "most"] (spWait C D) := by
  have GT : FnOk P w K mg base CX0 1 fT fdT ["member"] (spHadTurn C) := ok_had_its_turn FT T
  refine F.F.ok scWait (fun vs H Q E h => ?_) (fun cdv A outer s H vs Q E hr h => ?_)
  · obtain ⟨h, k, z, rfl, _⟩ := h
    rfl
  · obtain ⟨h, kk, most, rfl, R, g, k⟩ := h
    have hu := hu_of hr
    have hr1 : Room 1 _ := hr.mono (by decide)
    have hr2 : Room 2 _ := hr.mono (by decide)
    obtain ⟨dp, hp⟩ := R.ob
    refine ⟨_, pss_cons (ps_if (pt_not (pt_chain op_le op_le pe_int (pv 2) (pgi T2.gWAITED))) (pss_one (ps_ret (pe_lst (pa_cons (pgi T2.gRANGE) pa_nil)))) pss_nil)
      (pss_cons (ps_if (pt_cmp (pc_dnotin hu (pv 1) (pe_fld (pv 0) rfl)) (by with_unfolding_all rfl)) (pss_one (ps_ret (pe_lst (pa_cons (pgi T2.gTHERE) pa_nil)))) pss_nil)
      (pss_cons (ps_set (i := 3) scWait.nd rfl (Or.inl rfl) (pe_call GR hr rfl FR.m FR.F.kp FR.b .nil pass0 (pa_cons (pv 0) pa_nil)))
      (pss_cons (ps_set (i := 4) scWait.nd rfl (Or.inl rfl) (pe_lst pa_nil))
      (pss_cons (ps_set (i := 5) scWait.nd rfl (Or.inl rfl) (pe_lst pa_nil))
      (pss_cons (ps_set (i := 6) scWait.nd rfl (Or.inl rfl) (pe_lst pa_nil))
      (pss_cons (ps_for PassesOwn.never rfl (pi_list (pe_dget hu (pe_fld (pv 0) rfl) (pv 1) (fun _ _ => rfl))) (pg_name (i := 7) scWait.nd rfl (Or.inl rfl))
        (pss_cons (ps_set (i := 8) scWait.nd rfl (Or.inl rfl) (pe_call GS hr2 rfl FS.m FS.F.kp FS.b .nil pass0 (pa_cons (pv 0) (pa_cons (pv 7) (pa_cons (pv 3) pa_nil)))))
        (pss_one (ps_if (PW.pt (pw_and (pt_cmpR op_ne (pv 8) pe_int (nomark _)) (pw_and1 (pt_cmpR op_lt (pe_callB call_len_seq (by rfl) T.blen PySem.boot_len (pa_cons (pv 4) pa_nil)) (pv 2) (nomark _)))))
          (pss_cons (ps_expr (pe_bm PySem.F.plainAttrs_list PySem.F.slot_list_append PySem.F.type_list_append mt_append (pv 4) (pa_cons (pv 7) pa_nil)))
            (pss_one (ps_expr (pe_bm PySem.F.plainAttrs_list PySem.F.slot_list_extend PySem.F.type_list_extend mt_extend (pv 6) (pa_cons (pe_lst (pa_cons (pe_fld (pv 7) rfl) (pa_cons (pv 8) pa_nil))) pa_nil)))))
          (pss_one (ps_expr (pe_bm PySem.F.plainAttrs_list PySem.F.slot_list_append PySem.F.type_list_append mt_append (pv 5) (pa_cons (pv 7) pa_nil))))))))
      (pss_cons (ps_for PassesOwn.never rfl (pi_list (pv 4)) (pg_name (i := 7) scWait.nd rfl (Or.inl rfl)) (pss_one (ps_expr (pe_call GT hr1 rfl FT.m FT.F.kp FT.b .nil pass0 (pa_cons (pv 7) pa_nil)))))
      (pss_cons (ps_dput hu (pe_fld (pv 0) rfl) (pv 1) (pe_op op_cat (pv 5) (pv 4)) rfl)
      (pss_one (ps_ret (pe_op op_cat (pe_lst (pa_cons (pe_callB call_len_seq (by rfl) T.blen PySem.boot_len (pa_cons (pv 4) pa_nil)) pa_nil)) (pv 6)))))))))))), ?_⟩
    have s1z : 1 ≤ sizeLine := by decide
    have no : ¬ (1 ≤ most ∧ most ≤ 64) → ∀ r, H r = none → Q (.ref r) (upd H r (.lst [.int (-1)])) := fun n r hr0 => k.no (plain_wait_1 n) R g (Same.refl _) hr0
    refine ⟨_, rfl, _, _, rfl, rfl, _, rfl, ite2 (fun h1 => ?_) (fun h1 => ⟨_, rfl, iteT ⟨s1z, no fun q => h1 (decide_eq_true q.1)⟩⟩)⟩
    have h1' : 1 ≤ most := of_decide_eq_true h1
    refine ⟨_, _, rfl, rfl, _, rfl, ?_⟩
    by_cases h2 : most ≤ 64
    · rw [decide_eq_true h2]
      refine iteF ⟨_, rfl, _, rfl, h.p, D, dp, _, _, rfl, hp, T.clD, T.nSets, hf_sets _ _, h.sd, _, rfl, R.get kk, _, rfl, ?_⟩
      rw [valV_has_iff]
      by_cases nn : ∃ e ∈ h.L, kk = (e.k : Int)
      · rw [decide_eq_true nn]
        obtain ⟨e, he, rfl⟩ := nn
        obtain ⟨n, rfl⟩ : ∃ j : Nat, most = (j : Int) := ⟨most.toNat, by omega⟩
        have hfew := g.few e he
        have hsz : 1000 < sizeLine := by decide
        refine iteF ⟨_, rfl, h, rfl, R, g.toHG0, fun rd S H1 hrd hS rS s1 => ?_⟩
        refine ⟨Nat.zero_le _, fun tk htk => ⟨Nat.zero_le _, fun ot hot => ⟨Nat.zero_le _, fun nm hnm => ?_⟩⟩⟩
        obtain ⟨hot1, n_ot⟩ := upd_none hot
        obtain ⟨hnm1, n_no⟩ := upd_none hnm
        obtain ⟨hnm2, n_nt⟩ := upd_none hnm1
        have s4 : Same H1 (upd (upd (upd H1 tk (.lst [])) ot (.lst [])) nm (.lst [])) := ((same_new htk).trans (same_new hot)).trans (same_new hnm)
        have hT4 : (upd (upd (upd H1 tk (.lst [])) ot (.lst [])) nm (.lst [])) tk = some (.lst []) := by rw [upd_ne n_nt.symm, upd_ne n_ot.symm, upd_same]
        have hO4 : (upd (upd (upd H1 tk (.lst [])) ot (.lst [])) nm (.lst [])) ot = some (.lst []) := by rw [upd_ne n_no.symm, upd_same]
        have hN4 : (upd (upd (upd H1 tk (.lst [])) ot (.lst [])) nm (.lst [])) nm = some (.lst []) := upd_same
        generalize upd (upd (upd H1 tk (.lst [])) ot (.lst [])) nm (.lst []) = H4 at s4 hT4 hO4 hN4 ⊢
        have nk : ∀ b o, H1 b = some o → b ≠ tk ∧ b ≠ ot ∧ b ≠ nm := fun b o z => ⟨ne_of_none z htk, ne_of_none z hot1, ne_of_none z hnm2⟩
        have R1 := R.same s1
        have R4 := R1.same s4
        obtain ⟨dp4, hp4⟩ := R4.ob
        have esh : ∀ m, showsR h.st (fun k => decide (k ∈ S)) m = h.st.shown m := fun m => by
          rw [shown_eq (st_len h)]
          have : (fun k => decide (k ∈ S)) = h.st.isReady := by
            funext j
            exact Bool.eq_iff_iff.mpr (by rw [decide_eq_true_eq]; exact rS.2 j)
          rw [this]
        refine ⟨_, rfl, h.p, D, dp4, _, _, rfl, hp4, T.clD, T.nSets, hf_sets _ _, _, rfl, h.sd, _, rfl, R4.get_at g.toHG0 he, e.l, rfl, ⟨_, SqL.of (R4.lst e he)⟩, ?_⟩
        refine for_list (K := K) (a := e.l) (xs := e.ms.map fun x => V.ref x.1) (fun i σ H' => ∃ v7 v8, σ = [some (.ref h.p), some (.int e.k), some (.int n), some (.ref rd), some (.ref tk), some (.ref ot), some (.ref nm), v7, v8] ∧ Same H1 H' ∧
            H' tk = some (.lst ((tkA h n (e.ms.take i)).2.map fun x => V.ref x.1)) ∧ H' ot = some (.lst ((tkA h n (e.ms.take i)).1.map fun x => V.ref x.1)) ∧ H' nm = some (.lst (intsV (toldW h (tkA h n (e.ms.take i)).2))))
          ⟨_, _, rfl, s4, hT4, hO4, hN4⟩ (fun i σ H' _ ⟨_, _, _, sm, _⟩ => SqL.of (sm _ _ (R1.lst e he))) ?_ ?_
        · rintro i x σ H' hi ⟨v7, v8, rfl, sm, hT, hO, hN⟩
          obtain ⟨y, c, rfl⟩ := ref_at hi
          obtain ⟨dx, hy1⟩ := R1.mem e he y (List.mem_of_getElem? c)
          have hy := sm _ _ hy1
          have R' := R1.same sm
          have hlt := tk_len h n (e.ms.take i)
          have hli : (e.ms.take i).length ≤ 64 := by rw [List.length_take]; omega
          have etk : e.ms.take (i + 1) = e.ms.take i ++ [y] := by rw [List.take_add_one, c]; rfl
          have sn : tkA h n (e.ms.take (i + 1)) = (if h.st.shown y.2 = 0 ∨ n ≤ (tkA h n (e.ms.take i)).2.length then ((tkA h n (e.ms.take i)).1 ++ [y], (tkA h n (e.ms.take i)).2) else ((tkA h n (e.ms.take i)).1, (tkA h n (e.ms.take i)).2 ++ [y])) := by
            rw [etk]; exact takeA_snoc h.st.shown n (e.ms.take i) y
          have keep : ∀ {H2 : Hp}, (∀ b o, H' b = some o → b ≠ tk → b ≠ ot → b ≠ nm → H2 b = some o) → Same H1 H2 := fun kp b o z => kp b o (sm b o z) (nk b o z).1 (nk b o z).2.1 (nk b o z).2.2
          refine ⟨_, rfl, _, rfl, _, rfl, h, _, y.1, dx, rd, y.2, S, rfl, R', g.llen, hy, .inl (sm _ _ hS), ?_⟩
          rw [esh]
          refine ⟨_, rfl, rfl, _, rfl, ?_⟩
          have stay : (tkA h n (e.ms.take (i + 1)) = ((tkA h n (e.ms.take i)).1 ++ [y], (tkA h n (e.ms.take i)).2)) → ∃ v7 v8, ([some (.ref h.p), some (.int e.k), some (.int n), some (.ref rd), some (.ref tk), some (.ref ot), some (.ref nm), some (.ref y.1), some (.int (h.st.shown y.2 : Int))] : List (Option V)) = [some (.ref h.p), some (.int e.k), some (.int n), some (.ref rd), some (.ref tk), some (.ref ot), some (.ref nm), v7, v8] ∧
              Same H1 (upd H' ot (.lst (((tkA h n (e.ms.take i)).1.map fun x => V.ref x.1) ++ [V.ref y.1]))) ∧ (upd H' ot (.lst (((tkA h n (e.ms.take i)).1.map fun x => V.ref x.1) ++ [V.ref y.1]))) tk = some (.lst ((tkA h n (e.ms.take (i + 1))).2.map fun x => V.ref x.1)) ∧
              (upd H' ot (.lst (((tkA h n (e.ms.take i)).1.map fun x => V.ref x.1) ++ [V.ref y.1]))) ot = some (.lst ((tkA h n (e.ms.take (i + 1))).1.map fun x => V.ref x.1)) ∧
              (upd H' ot (.lst (((tkA h n (e.ms.take i)).1.map fun x => V.ref x.1) ++ [V.ref y.1]))) nm = some (.lst (intsV (toldW h (tkA h n (e.ms.take (i + 1))).2))) := fun q => by
            refine ⟨_, _, rfl, keep fun b o z _ z2 _ => by rw [upd_ne z2]; exact z, ?_, ?_, ?_⟩
            · rw [upd_ne n_ot.symm, q]; exact hT
            · rw [upd_same, q, List.map_append]; rfl
            · rw [upd_ne n_no, q]; exact hN
          by_cases q : h.st.shown y.2 = 0
          · rw [if_pos (.inl q)] at sn
            rw [decide_eq_true (show V.int ((h.st.shown y.2 : Nat) : Int) = V.int 0 by rw [q]; rfl)]
            exact iteF (iteF ⟨_, rfl, .inl ⟨rfl, _, SqL.of hO⟩, _, rfl, ot, _, _, rfl, rfl, hO, (by rw [List.length_map]; omega), stay sn⟩)
          · rw [decide_eq_false (show ¬ V.int ((h.st.shown y.2 : Nat) : Int) = V.int 0 from fun z => q (by injection z with z; omega))]
            refine iteT ⟨_, rfl, tk, _, rfl, .inl (SqL.of hT), _, rfl, _, _, rfl, rfl, _, rfl, ?_⟩
            rw [List.length_map]
            by_cases q2 : (tkA h n (e.ms.take i)).2.length < n
            · rw [decide_eq_true (show (((tkA h n (e.ms.take i)).2.length : Nat) : Int) < (n : Int) by omega)]
              rw [if_neg (by rintro (z | z); exact q z; exact absurd q2 (Nat.not_lt.mpr z))] at sn
              refine iteT ⟨_, rfl, .inl ⟨rfl, _, SqL.of hT⟩, _, rfl, tk, _, _, rfl, rfl, hT, (by rw [List.length_map]; omega), ?_⟩
              have hN2 : (upd H' tk (.lst (((tkA h n (e.ms.take i)).2.map fun x => V.ref x.1) ++ [V.ref y.1]))) nm = some (.lst (intsV (toldW h (tkA h n (e.ms.take i)).2))) := by rw [upd_ne n_nt]; exact hN
              have hy2 : (upd H' tk (.lst (((tkA h n (e.ms.take i)).2.map fun x => V.ref x.1) ++ [V.ref y.1]))) y.1 = some (.ins C dx (mf y.2)) := by rw [upd_ne (nk _ _ hy1).1]; exact hy
              refine ⟨_, rfl, .inl ⟨rfl, _, SqL.of hN2⟩, _, rfl, y.1, C, dx, _, _, rfl, hy2, T.clC, T.nData, mfR_data, _, rfl, (by show 2 ≤ sizeLine; decide), fun p hp => ?_⟩
              obtain ⟨hp1, hpt⟩ := upd_none hp
              refine ⟨nm, p, _, _, rfl, rfl, (by rw [upd_ne (ne_of_none hN2 hp)]; exact hN2), upd_same, (by rw [toldW_len]; show _ + 2 ≤ _; omega), ?_⟩
              refine ⟨_, _, rfl, keep fun b o z z1 z2 z3 => by rw [upd_ne z3, upd_ne (ne_of_none z hp1), upd_ne z1]; exact z, ?_, ?_, ?_⟩
              · rw [upd_ne n_nt.symm, upd_ne hpt.symm, upd_same, sn, List.map_append]; rfl
              · rw [upd_ne n_no.symm, upd_ne (ne_of_none hO hp1), upd_ne n_ot, sn]; exact hO
              · rw [upd_same, sn, toldW_snoc]
            · rw [decide_eq_false (show ¬ (((tkA h n (e.ms.take i)).2.length : Nat) : Int) < (n : Int) by omega)]
              rw [if_pos (.inr (Nat.not_lt.mp q2))] at sn
              exact iteF ⟨_, rfl, .inl ⟨rfl, _, SqL.of hO⟩, _, rfl, ot, _, _, rfl, rfl, hO, (by rw [List.length_map]; omega), stay sn⟩
        · rintro σ H5 ⟨v7, v8, rfl, s5, hT5, hO5, hN5⟩
          rw [List.length_map, List.take_length] at hT5 hO5 hN5
          have R5 := R1.same s5
          have s05 := s1.trans s5
          have hlt := tk_len h n e.ms
          have tnd : ((tkA h n e.ms).2.map (·.1)).Nodup := by
            have := (takeA_perm h.st.shown n e.ms).map (·.1)
            have := this.nodup_iff.mpr (g.mnd e he)
            rw [List.map_append] at this
            exact (List.nodup_append.mp this).2.1
          refine ⟨_, rfl, tk, rfl, ⟨_, SqL.of hT5⟩, ?_⟩
          refine for_list (K := K) (a := tk) (xs := (tkA h n e.ms).2.map fun x => V.ref x.1) (fun j σ H' => ∃ v7, σ = [some (.ref h.p), some (.int e.k), some (.int n), some (.ref rd), some (.ref tk), some (.ref ot), some (.ref nm), v7, v8] ∧ Upto C h turn H5 (((tkA h n e.ms).2.take j).map (·.1)) H')
            ⟨_, rfl, Upto.zero⟩ (fun j σ H' _ ⟨_, _, u⟩ => SqL.of (u.keep R5 hT5 (fun _ _ z => by cases z))) ?_ ?_
          · rintro j x σ H' hj ⟨v7, rfl, u⟩
            obtain ⟨y, c, rfl⟩ := ref_at hj
            have hy := takeA_mem2 (List.mem_of_getElem? c)
            obtain ⟨dx, hm⟩ := R5.mem e he y hy
            have ny : y.1 ∉ ((tkA h n e.ms).2.take j).map (·.1) := fun z => by
              have cm : ((tkA h n e.ms).2.map (·.1))[j]? = some y.1 := by rw [List.getElem?_map, c]; rfl
              rw [List.map_take] at z
              exact take_not tnd cm z
            refine ⟨_, rfl, y.1, dx, y.2, rfl, u.kp _ _ hm ny, fun H2 hn kp => ⟨_, rfl, ?_⟩⟩
            have eA : ((tkA h n e.ms).2.take (j + 1)).map (·.1) = ((tkA h n e.ms).2.take j).map (·.1) ++ [y.1] := by rw [List.take_add_one, c, List.map_append]; rfl
            rw [eA]
            exact u.step g.toHG0 he hy hn kp
          · rintro σ H6 ⟨v7, rfl, u⟩
            rw [List.length_map, List.take_length] at u
            have hT6 := u.keep R5 hT5 (fun _ _ z => by cases z)
            have hO6 := u.keep R5 hO5 (fun _ _ z => by cases z)
            have hN6 := u.keep R5 hN5 (fun _ _ z => by cases z)
            obtain ⟨dp5, hp5⟩ := R5.ob
            have hp6 := u.keep R5 hp5 (fun _ _ => ins_ne)
            have hs6 := u.keep R5 R5.sds (fun _ _ z => by cases z)
            refine ⟨_, rfl, _, rfl, ot, tk, _, _, rfl, rfl, hO6, hT6, (by rw [List.length_map, List.length_map]; omega), fun l hl => ?_⟩
            have hl5 := u.free hl
            have hl0 := s05.free hl5
            obtain ⟨n1, n2, n3⟩ := R5.new_l hl5
            have ap := R5.apart
            have nls : l ≠ h.sd := (ne_of_none R5.sds hl5).symm
            have k7 : ∀ b o, H6 b = some o → (upd H6 l (.lst (((tkA h n e.ms).1.map fun x => V.ref x.1) ++ ((tkA h n e.ms).2.map fun x => V.ref x.1)))) b = some o := fun b o z => by rw [upd_ne (ne_of_none z hl)]; exact z
            refine ⟨_, rfl, h.p, D, dp5, _, _, rfl, k7 _ _ hp6, T.clD, T.nSets, hf_sets _ _, _, rfl, h.sd, _, rfl, DPut.k (k := Sum.inl (e.k : Int)) (k7 _ _ hs6) (kvs_size g.toHG0), ?_⟩
            rw [putK_at he l (waited h n e), ← waited_refs]
            have k8 : ∀ b o, H6 b = some o → b ≠ h.sd → (upd (upd H6 l (.lst ((waited h n e).map fun x => V.ref x.1))) h.sd (.dK (kvsOf (putE h.L e.k l (waited h n e))))) b = some o := fun b o z z2 => by rw [upd_ne z2, upd_ne (ne_of_none z hl)]; exact z
            have l8 : (upd (upd H6 l (.lst ((waited h n e).map fun x => V.ref x.1))) h.sd (.dK (kvsOf (putE h.L e.k l (waited h n e))))) l = some (.lst ((waited h n e).map fun x => V.ref x.1)) := by rw [upd_ne nls, upd_same]
            have d8 : (upd (upd H6 l (.lst ((waited h n e).map fun x => V.ref x.1))) h.sd (.dK (kvsOf (putE h.L e.k l (waited h n e))))) h.sd = some (.dK (kvsOf (putE h.L e.k l (waited h n e)))) := upd_same
            generalize upd (upd H6 l (.lst ((waited h n e).map fun x => V.ref x.1))) h.sd (.dK (kvsOf (putE h.L e.k l (waited h n e)))) = H8 at k8 l8 d8 ⊢
            have R8 : HAt C D H8 { h with L := putE h.L e.k l (waited h n e) } := by
              refine ⟨⟨dp5, k8 _ _ hp6 (ap _ (.inl rfl))⟩, k8 _ _ (u.keep R5 R5.lvl (fun _ _ z => by cases z)) (ap _ (.inr (.inl rfl))), d8, .inl rfl, fun x hx => ?_, fun x hx y hy => ?_⟩
              · obtain ⟨z, hz, _, q | q⟩ := mem_putE hx
                · rw [q.2.1, q.2.2]; exact l8
                · rw [q.2]; exact k8 _ _ (u.keep R5 (R5.lst z hz) (fun _ _ z => by cases z)) (ap _ (.inr (.inr (.inl ⟨z, hz, rfl⟩))))
              · obtain ⟨z, hz, _, q | q⟩ := mem_putE hx
                · rw [q.2.2] at hy
                  rcases List.mem_append.mp hy with y1 | y1
                  · have hy' := takeA_mem1 y1
                    obtain ⟨dx, c⟩ := R5.mem e he y hy'
                    refine ⟨dx, k8 _ _ (u.kp _ _ c fun z => ?_) (ap _ (.inr (.inr (.inr ⟨e, he, y, hy', rfl⟩))))⟩
                    have pn := ((takeA_perm h.st.shown n e.ms).map (·.1)).nodup_iff.mpr (g.mnd e he)
                    rw [List.map_append] at pn
                    exact (List.nodup_append.mp pn).2.2 y.1 (List.mem_map.mpr ⟨y, y1, rfl⟩) y.1 z rfl
                  · obtain ⟨x', hx', rfl⟩ := List.mem_map.mp y1
                    have hm := takeA_mem2 hx'
                    obtain ⟨dx, c⟩ := u.nw e he x' hm (List.mem_map.mpr ⟨x', hx', rfl⟩)
                    rw [turn_after g.toHG0 he hm (takeA_shows _ _ _ hx')] at c
                    exact ⟨dx, k8 _ _ c (ap _ (.inr (.inr (.inr ⟨e, he, x', hm, rfl⟩))))⟩
                · rw [q.2] at hy
                  obtain ⟨dx, c⟩ := R5.mem z hz y hy
                  refine ⟨dx, k8 _ _ (u.kp _ _ c fun w => ?_) (ap _ (.inr (.inr (.inr ⟨z, hz, y, hy, rfl⟩))))⟩
                  obtain ⟨x', hx', ex⟩ := List.mem_map.mp w
                  obtain ⟨r, _⟩ := g.toHG0.inj he hz (takeA_mem2 hx') hy ex
                  exact q.1 (by rw [r])
            have hT8 := k8 _ _ hT6 (ne_of hT6 hs6 (by intro z; cases z))
            have hN8 := k8 _ _ hN6 (ne_of hN6 hs6 (by intro z; cases z))
            refine ⟨_, rfl, tk, _, rfl, .inl (SqL.of hT8), s1z, fun q hq => ?_⟩
            refine ⟨_, rfl, q, nm, _, _, rfl, rfl, upd_same, (by rw [upd_ne (ne_of_none hN8 hq)]; exact hN8), (by rw [toldW_len]; show 1 + _ ≤ _; omega), fun r hr0 => ?_⟩
            rw [List.length_map]
            rw [List.length_map] at hr0
            have s9 : Same H8 (upd (upd H8 q (.lst [V.int (((tkA h n e.ms).2.length : Nat) : Int)])) r (.lst ([V.int (((tkA h n e.ms).2.length : Nat) : Int)] ++ intsV (toldW h (tkA h n e.ms).2)))) := (same_new hq).trans (same_new hr0)
            have pl := plain_wait g.toHG0 he (n := n) ⟨by omega, by omega⟩ l
            have own8 : ∀ b o, H b = some o → ¬ Own h b → H8 b = some o := fun b o z nb => k8 b o (u.kp b o (s05 b o z) fun y => nb (u.sub b y).own) fun y => nb (by rw [y]; exact own_sd h)
            refine k { h with L := putE h.L e.k l (waited h n e) } _ r rfl (R8.same s9) (good_wait g he n (fun x hx => n1 x hx) n2) (by rw [pl]; rfl) (fram_put (fun b o z nb => s9 b o (own8 b o z nb)) (.inr hl0) fun x hx => ?_) (fun b o z nb => ne_of_none ((same_new hq) b o (own8 b o z nb)) hr0) ?_
            · obtain ⟨x', hx', ex, _⟩ := waited_mem hx
              rw [ex]
              exact .inl (own_mem he hx')
            · rw [upd_same, pl, ansL_V]; rfl
      · rw [decide_eq_false nn]
        exact iteT ⟨s1z, fun r hr0 => k.no (plain_wait_2 g.toHG0 ⟨h1', h2⟩ nn) R g (Same.refl _) hr0⟩
    · rw [decide_eq_false h2]
      exact iteT ⟨s1z, no fun q => h2 q.2⟩
end
end Rs
namespace Rs
open PySem L2
structure Txt3 (K : PySem.W.Frag) (mg : Str → Option Value) : Prop where
  gBEGINS : ∃ t, mg "BEGINS" = some (.int 0 t)
  gOPENS : ∃ t, mg "OPENS" = some (.int 1 t)
  gSHUT : ∃ t, mg "SHUT" = some (.int 2 t)
  gADD : ∃ t, mg "ADD" = some (.int 3 t)
  gCHANGE : ∃ t, mg "CHANGE" = some (.int 4 t)
  gDROP : ∃ t, mg "DROP" = some (.int 5 t)
  gLEVEL6 : ∃ t, mg "LEVEL" = some (.int 6 t)
  gPOKE : ∃ t, mg "POKE" = some (.int 7 t)
  gGONE : ∃ t, mg "GONE" = some (.int 8 t)
  gWAIT : ∃ t, mg "WAIT" = some (.int 9 t)
  gTOLD : ∃ t, mg "TOLD" = some (.int 11 t)
  bsorted : mg "sorted" = none
/-- a call as its numbers -/
inductive Is : List Int → Si24.Call → Prop
  | begins : Is [0] .begins
  | opens : Is [1] .opens
  | shut (a : Int) : Is [2, a] (.shut a)
  | add (a b c d e : Int) (h0 : 0 ≤ e) (h1 : e < 2 ^ 64) : Is [3, a, b, c, d, e] (.add a b c d e.toNat)
  | change (a b c d e : Int) (h0 : 0 ≤ e) (h1 : e < 2 ^ 64) : Is [4, a, b, c, d, e] (.change a b c d e.toNat)
  | drop (a b : Int) : Is [5, a, b] (.drop a b)
  | level (a b : Int) : Is [6, a, b] (.level a b)
  | poke (a b : Int) : Is [7, a, b] (.poke a b)
  | gone (a : Int) : Is [8, a] (.gone a)
  | wait (a b : Int) : Is [9, a, b] (.wait a b)
  | ready (a : Int) : Is [10, a] (.isReady a)
  | told (a : Int) : Is [11, a] (.told a)
def quiet : Si24.Call → Prop
  | .wait _ _ => False
  | .told _ => False
  | _ => True
theorem plain_more {s : Si24.St} {c : Si24.Call} (h : quiet c) : (Si24.plain s c).2.more = [] := by
  cases c <;> first | exact h.elim | skip
  all_goals
    simp only [Si24.plain]
    repeat' split
    all_goals rfl
theorem plain_neg {s : Si24.St} {c : Si24.Call} (h : (Si24.plain s c).2.code < 0) : (Si24.plain s c).2.more = [] := by
  cases c with
  | wait k m =>
    simp only [Si24.plain] at h ⊢
    by_cases q : Si24.inRange m 1 Si24.MEMBERS = false
    · rw [if_pos q]; rfl
    · rw [if_neg q] at h ⊢
      by_cases q2 : s.has k = false
      · rw [if_pos q2]; rfl
      · rw [if_neg q2] at h
        exact absurd h (by show ¬ ((_ : Nat) : Int) < 0; omega)
  | told k =>
    simp only [Si24.plain] at h ⊢
    by_cases q2 : s.has k = false
    · rw [if_pos q2]; rfl
    · rw [if_neg q2] at h
      exact absurd h (by show ¬ ((_ : Nat) : Int) < 0; omega)
  | _ => exact plain_more True.intro
theorem more_len {h : Ho} (g : HG0 h) (c : Si24.Call) : (Si24.plain h.st c).2.more.length ≤ 384 := by
  cases c with
  | wait k m =>
    by_cases q : 1 ≤ m ∧ m ≤ 64
    · by_cases n : ∃ e ∈ h.L, k = (e.k : Int)
      · obtain ⟨e, he, rfl⟩ := n
        obtain ⟨j, rfl⟩ : ∃ j : Nat, m = (j : Int) := ⟨m.toNat, by omega⟩
        rw [plain_wait g he (n := j) ⟨by omega, by omega⟩ 0]
        have := tk_len h j e.ms
        have hf := g.few e he
        show (toldW h (tkA h j e.ms).2).length ≤ 384
        rw [show (toldW h (tkA h j e.ms).2).length = 2 * (tkA h j e.ms).2.length from flat_len (n := 2) _ _ fun x _ => rfl]
        omega
      · rw [plain_wait_2 g q n]; exact Nat.zero_le _
    · rw [plain_wait_1 q]; exact Nat.zero_le _
  | told k =>
    by_cases n : ∃ e ∈ h.L, k = (e.k : Int)
    · obtain ⟨e, he, rfl⟩ := n
      rw [plain_told g he]
      have hf := g.few e he
      show (e.ms.flatMap fun x => toldOf x.2).length ≤ 384
      rw [flat_len (n := 6) _ _ fun x _ => rfl]
      omega
    · rw [plain_told_no g n]; exact Nat.zero_le _
  | _ => exact Nat.le_trans (Nat.le_of_eq (congrArg List.length (plain_more (by exact True.intro)))) (Nat.zero_le _)
theorem kne {a b : Int} {A B : Prop} (h : a ≠ b) (k : B) : if decide (V.int a = V.int b) = true then A else B := by
  rw [decide_eq_false (show ¬ V.int a = V.int b from fun z => h (by injection z))]
  exact iteF k
theorem keq {a b : Int} {A B : Prop} (h : a = b) (k : A) : if decide (V.int a = V.int b) = true then A else B := by
  rw [decide_eq_true (show V.int a = V.int b by rw [h])]
  exact iteT k
section
variable {P : Program} {w : World} {K : PySem.W.Frag} {mg : Str → Option Value} {base : Heap} {C D : Addr}
/-- the calls' defs -/
structure Calls (P : Program) (w : World) (K : PySem.W.Frag) (mg : Str → Option Value) (base : Heap) (C D : Addr) : Prop where
  begins : ∃ f fd, Fn K mg "begins" sBegins ["house"] f fd ∧ FnOk P w K mg base CX0 2 f fd ["house"] (spCall0 C D .begins)
  opens : ∃ f fd, Fn K mg "opens" sOpens ["house"] f fd ∧ FnOk P w K mg base CX0 1 f fd ["house"] (spCall0 C D .opens)
  shut : ∃ f fd, Fn K mg "shut" sShut ["house", "number"] f fd ∧ FnOk P w K mg base CX0 2 f fd ["house", "number"] (spShut C D)
  add : ∃ f fd, Fn K mg "add" sAdd ["house", "number", "source", "bits", "mode", "data"] f fd ∧ FnOk P w K mg base CX0 6 f fd ["house", "number", "source", "bits", "mode", "data"] (spAdd C D)
  change : ∃ f fd, Fn K mg "change" sChange ["house", "number", "source", "bits", "mode", "data"] f fd ∧ FnOk P w K mg base CX0 4 f fd ["house", "number", "source", "bits", "mode", "data"] (spChange C D)
  drop : ∃ f fd, Fn K mg "drop" sDrop ["house", "number", "source"] f fd ∧ FnOk P w K mg base CX0 2 f fd ["house", "number", "source"] (spDrop C D)
  level : ∃ f fd, Fn K mg "level" sLevel ["house", "source", "bits"] f fd ∧ FnOk P w K mg base CX0 2 f fd ["house", "source", "bits"] (spLevel C D)
  poke : ∃ f fd, Fn K mg "poke" sPoke ["house", "source", "bits"] f fd ∧ FnOk P w K mg base CX0 2 f fd ["house", "source", "bits"] (spPoke C D)
  gone : ∃ f fd, Fn K mg "gone" sGone ["house", "source"] f fd ∧ FnOk P w K mg base CX0 2 f fd ["house", "source"] (spGone C D)
  ready : ∃ f fd, Fn K mg "ready" sReady ["house", "number"] f fd ∧ FnOk P w K mg base CX0 5 f fd ["house", "number"] (spReady C D)
/-! ### carry_out_untold -/
def spUntold (C D : Addr) : Sp := fun vs H Q _ => ∃ (h : Ho) (cl : Addr) (ns : List Int) (c : Si24.Call), vs = [.ref h.p, .ref cl] ∧ HAt C D H h ∧ HGood h ∧ H cl = some (.lst (ns.map V.int)) ∧ Is ns c ∧ quiet c ∧ Done C D H h c Q
theorem scUntold : FnScope ["house", "call", "kind"] ["house", "call"] (defScope sCarryUntold) := ⟨rfl, rfl, rfl, by decide +kernel, rfl, by decide +kernel, by decide +kernel⟩
theorem ok_untold {f : Addr} {fd : FuncData} (F : Fn K mg "carry_out_untold" sCarryUntold ["house", "call"] f fd) (T3 : Txt3 K mg) (S : Calls P w K mg base C D) : FnOk P w K mg base CX0 7 f fd ["house", "call"] (spUntold C D) := by
  obtain ⟨fB, fdB, FB, GB⟩ := S.begins
  obtain ⟨fO, fdO, FO, GO⟩ := S.opens
  obtain ⟨fS, fdS, FS, GS⟩ := S.shut
  obtain ⟨fA, fdA, FA, GA⟩ := S.add
  obtain ⟨fC, fdC, FC, GC⟩ := S.change
  obtain ⟨fD, fdD, FD, GD⟩ := S.drop
  obtain ⟨fL, fdL, FL, GL⟩ := S.level
  obtain ⟨fP, fdP, FP, GP⟩ := S.poke
  obtain ⟨fG, fdG, FG, GG⟩ := S.gone
  obtain ⟨fR, fdR, FR, GR⟩ := S.ready
  refine F.F.ok scUntold (fun vs H Q E h => ?_) (fun cdv A outer s H vs Q E hr h => ?_)
  · obtain ⟨h, cl, ns, c, rfl, _⟩ := h
    rfl
  · obtain ⟨h, cl, ns, c, rfl, R, g, hc, is, qt, k⟩ := h
    have hr1 : Room 1 _ := hr.mono (by decide)
    have hr2 : Room 2 _ := hr.mono (by decide)
    have hr4 : Room 4 _ := hr.mono (by decide)
    have hr5 : Room 5 _ := hr.mono (by decide)
    refine ⟨_, pss_cons (ps_set (i := 2) scUntold.nd rfl (Or.inl rfl) (pe_ix ix_list (pv 1) pe_int (fun _ _ => rfl)))
      (pss_cons (ps_if (pt_cmpR op_eq (pv 2) (pgi T3.gBEGINS) (nomark _)) (pss_one (ps_ret (pe_call GB hr2 rfl FB.m FB.F.kp FB.b .nil pass0 (pa_cons (pv 0) pa_nil)))) pss_nil)
      (pss_cons (ps_if (pt_cmpR op_eq (pv 2) (pgi T3.gOPENS) (nomark _)) (pss_one (ps_ret (pe_call GO hr1 rfl FO.m FO.F.kp FO.b .nil pass0 (pa_cons (pv 0) pa_nil)))) pss_nil)
      (pss_cons (ps_if (pt_cmpR op_eq (pv 2) (pgi T3.gSHUT) (nomark _)) (pss_one (ps_ret (pe_call GS hr2 rfl FS.m FS.F.kp FS.b .nil pass0 (pa_cons (pv 0) (pa_cons (pe_ix ix_list (pv 1) pe_int (fun _ _ => rfl)) pa_nil))))) pss_nil)
      (pss_cons (ps_if (pt_cmpR op_eq (pv 2) (pgi T3.gADD) (nomark _)) (pss_one (ps_ret (pe_call GA hr rfl FA.m FA.F.kp FA.b .nil pass0 (pa_cons (pv 0) (pa_cons (pe_ix ix_list (pv 1) pe_int (fun _ _ => rfl)) (pa_cons (pe_ix ix_list (pv 1) pe_int (fun _ _ => rfl)) (pa_cons (pe_ix ix_list (pv 1) pe_int (fun _ _ => rfl)) (pa_cons (pe_ix ix_list (pv 1) pe_int (fun _ _ => rfl)) (pa_cons (pe_ix ix_list (pv 1) pe_int (fun _ _ => rfl)) pa_nil))))))))) pss_nil)
      (pss_cons (ps_if (pt_cmpR op_eq (pv 2) (pgi T3.gCHANGE) (nomark _)) (pss_one (ps_ret (pe_call GC hr4 rfl FC.m FC.F.kp FC.b .nil pass0 (pa_cons (pv 0) (pa_cons (pe_ix ix_list (pv 1) pe_int (fun _ _ => rfl)) (pa_cons (pe_ix ix_list (pv 1) pe_int (fun _ _ => rfl)) (pa_cons (pe_ix ix_list (pv 1) pe_int (fun _ _ => rfl)) (pa_cons (pe_ix ix_list (pv 1) pe_int (fun _ _ => rfl)) (pa_cons (pe_ix ix_list (pv 1) pe_int (fun _ _ => rfl)) pa_nil))))))))) pss_nil)
      (pss_cons (ps_if (pt_cmpR op_eq (pv 2) (pgi T3.gDROP) (nomark _)) (pss_one (ps_ret (pe_call GD hr2 rfl FD.m FD.F.kp FD.b .nil pass0 (pa_cons (pv 0) (pa_cons (pe_ix ix_list (pv 1) pe_int (fun _ _ => rfl)) (pa_cons (pe_ix ix_list (pv 1) pe_int (fun _ _ => rfl)) pa_nil)))))) pss_nil)
      (pss_cons (ps_if (pt_cmpR op_eq (pv 2) (pgi T3.gLEVEL6) (nomark _)) (pss_one (ps_ret (pe_call GL hr2 rfl FL.m FL.F.kp FL.b .nil pass0 (pa_cons (pv 0) (pa_cons (pe_ix ix_list (pv 1) pe_int (fun _ _ => rfl)) (pa_cons (pe_ix ix_list (pv 1) pe_int (fun _ _ => rfl)) pa_nil)))))) pss_nil)
      (pss_cons (ps_if (pt_cmpR op_eq (pv 2) (pgi T3.gPOKE) (nomark _)) (pss_one (ps_ret (pe_call GP hr2 rfl FP.m FP.F.kp FP.b .nil pass0 (pa_cons (pv 0) (pa_cons (pe_ix ix_list (pv 1) pe_int (fun _ _ => rfl)) (pa_cons (pe_ix ix_list (pv 1) pe_int (fun _ _ => rfl)) pa_nil)))))) pss_nil)
      (pss_cons (ps_if (pt_cmpR op_eq (pv 2) (pgi T3.gGONE) (nomark _)) (pss_one (ps_ret (pe_call GG hr2 rfl FG.m FG.F.kp FG.b .nil pass0 (pa_cons (pv 0) (pa_cons (pe_ix ix_list (pv 1) pe_int (fun _ _ => rfl)) pa_nil))))) pss_nil)
      (pss_one (ps_ret (pe_call GR hr5 rfl FR.m FR.F.kp FR.b .nil pass0 (pa_cons (pv 0) (pa_cons (pe_ix ix_list (pv 1) pe_int (fun _ _ => rfl)) pa_nil)))))))))))))), ?_⟩
    cases is with
    | begins =>
      refine ⟨_, rfl, cl, _, _, _, rfl, rfl, SqL.of hc, at_of (j := 0) rfl rfl, ?_⟩
      refine ⟨_, rfl, rfl, _, rfl, keq rfl ?_⟩
      exact ⟨_, rfl, h, rfl, R, g, k⟩
    | opens =>
      refine ⟨_, rfl, cl, _, _, _, rfl, rfl, SqL.of hc, at_of (j := 0) rfl rfl, ?_⟩
      iterate 1 refine ⟨_, rfl, rfl, _, rfl, kne (by decide) ?_⟩
      refine ⟨_, rfl, rfl, _, rfl, keq rfl ?_⟩
      exact ⟨_, rfl, h, rfl, R, g, k⟩
    | shut a =>
      refine ⟨_, rfl, cl, _, _, _, rfl, rfl, SqL.of hc, at_of (j := 0) rfl rfl, ?_⟩
      iterate 2 refine ⟨_, rfl, rfl, _, rfl, kne (by decide) ?_⟩
      refine ⟨_, rfl, rfl, _, rfl, keq rfl ?_⟩
      exact ⟨_, rfl, _, rfl, cl, _, _, _, rfl, rfl, SqL.of hc, at_of (j := 1) rfl rfl, h, _, rfl, R, g, k⟩
    | add a b c d e h0 h1 =>
      refine ⟨_, rfl, cl, _, _, _, rfl, rfl, SqL.of hc, at_of (j := 0) rfl rfl, ?_⟩
      iterate 3 refine ⟨_, rfl, rfl, _, rfl, kne (by decide) ?_⟩
      refine ⟨_, rfl, rfl, _, rfl, keq rfl ?_⟩
      exact ⟨_, rfl, _, rfl, cl, _, _, _, rfl, rfl, SqL.of hc, at_of (j := 1) rfl rfl, _, rfl, cl, _, _, _, rfl, rfl, SqL.of hc, at_of (j := 2) rfl rfl, _, rfl, cl, _, _, _, rfl, rfl, SqL.of hc, at_of (j := 3) rfl rfl,
        _, rfl, cl, _, _, _, rfl, rfl, SqL.of hc, at_of (j := 4) rfl rfl, _, rfl, cl, _, _, _, rfl, rfl, SqL.of hc, at_of (j := 5) rfl rfl, h, _, _, _, _, _, rfl, R, g, h0, h1, k⟩
    | change a b c d e h0 h1 =>
      refine ⟨_, rfl, cl, _, _, _, rfl, rfl, SqL.of hc, at_of (j := 0) rfl rfl, ?_⟩
      iterate 4 refine ⟨_, rfl, rfl, _, rfl, kne (by decide) ?_⟩
      refine ⟨_, rfl, rfl, _, rfl, keq rfl ?_⟩
      exact ⟨_, rfl, _, rfl, cl, _, _, _, rfl, rfl, SqL.of hc, at_of (j := 1) rfl rfl, _, rfl, cl, _, _, _, rfl, rfl, SqL.of hc, at_of (j := 2) rfl rfl, _, rfl, cl, _, _, _, rfl, rfl, SqL.of hc, at_of (j := 3) rfl rfl,
        _, rfl, cl, _, _, _, rfl, rfl, SqL.of hc, at_of (j := 4) rfl rfl, _, rfl, cl, _, _, _, rfl, rfl, SqL.of hc, at_of (j := 5) rfl rfl, h, _, _, _, _, _, rfl, R, g, h0, h1, k⟩
    | drop a b =>
      refine ⟨_, rfl, cl, _, _, _, rfl, rfl, SqL.of hc, at_of (j := 0) rfl rfl, ?_⟩
      iterate 5 refine ⟨_, rfl, rfl, _, rfl, kne (by decide) ?_⟩
      refine ⟨_, rfl, rfl, _, rfl, keq rfl ?_⟩
      exact ⟨_, rfl, _, rfl, cl, _, _, _, rfl, rfl, SqL.of hc, at_of (j := 1) rfl rfl, _, rfl, cl, _, _, _, rfl, rfl, SqL.of hc, at_of (j := 2) rfl rfl, h, _, _, rfl, R, g, k⟩
    | level a b =>
      refine ⟨_, rfl, cl, _, _, _, rfl, rfl, SqL.of hc, at_of (j := 0) rfl rfl, ?_⟩
      iterate 6 refine ⟨_, rfl, rfl, _, rfl, kne (by decide) ?_⟩
      refine ⟨_, rfl, rfl, _, rfl, keq rfl ?_⟩
      exact ⟨_, rfl, _, rfl, cl, _, _, _, rfl, rfl, SqL.of hc, at_of (j := 1) rfl rfl, _, rfl, cl, _, _, _, rfl, rfl, SqL.of hc, at_of (j := 2) rfl rfl, h, _, _, rfl, R, g, k⟩
    | poke a b =>
      refine ⟨_, rfl, cl, _, _, _, rfl, rfl, SqL.of hc, at_of (j := 0) rfl rfl, ?_⟩
      iterate 7 refine ⟨_, rfl, rfl, _, rfl, kne (by decide) ?_⟩
      refine ⟨_, rfl, rfl, _, rfl, keq rfl ?_⟩
      exact ⟨_, rfl, _, rfl, cl, _, _, _, rfl, rfl, SqL.of hc, at_of (j := 1) rfl rfl, _, rfl, cl, _, _, _, rfl, rfl, SqL.of hc, at_of (j := 2) rfl rfl, h, _, _, rfl, R, g, k⟩
    | gone a =>
      refine ⟨_, rfl, cl, _, _, _, rfl, rfl, SqL.of hc, at_of (j := 0) rfl rfl, ?_⟩
      iterate 8 refine ⟨_, rfl, rfl, _, rfl, kne (by decide) ?_⟩
      refine ⟨_, rfl, rfl, _, rfl, keq rfl ?_⟩
      exact ⟨_, rfl, _, rfl, cl, _, _, _, rfl, rfl, SqL.of hc, at_of (j := 1) rfl rfl, h, _, rfl, R, g, k⟩
    | ready a =>
      refine ⟨_, rfl, cl, _, _, _, rfl, rfl, SqL.of hc, at_of (j := 0) rfl rfl, ?_⟩
      iterate 9 refine ⟨_, rfl, rfl, _, rfl, kne (by decide) ?_⟩
      exact ⟨_, rfl, _, rfl, cl, _, _, _, rfl, rfl, SqL.of hc, at_of (j := 1) rfl rfl, h, _, rfl, R, g, k⟩
    | wait a b => exact qt.elim
    | told a => exact qt.elim
/-! ### carry_out -/
def spCarry (C D : Addr) : Sp := fun vs H Q _ => ∃ (h : Ho) (cl : Addr) (ns : List Int) (c : Si24.Call), vs = [.ref h.p, .ref cl] ∧ HAt C D H h ∧ HGood h ∧ H cl = some (.lst (ns.map V.int)) ∧ Is ns c ∧ DoneL C D H h c Q
theorem scCarry : FnScope ["house", "call"] ["house", "call"] (defScope sCarryOut) := ⟨rfl, rfl, rfl, by decide +kernel, rfl, by decide +kernel, by decide +kernel⟩
theorem ok_carry_out {f fW fT fU : Addr} {fd fdW fdT fdU : FuncData} (F : Fn K mg "carry_out" sCarryOut ["house", "call"] f fd) (T3 : Txt3 K mg) (FW : Fn K mg "wait" sWait ["house", "number", "most"] fW fdW)
    (GW : FnOk P w K mg base CX0 5 fW fdW ["house", "number", "most"] (spWait C D)) (FT : Fn K mg "told" sTold ["house", "number"] fT fdT) (GT : FnOk P w K mg base CX0 1 fT fdT ["house", "number"] (spTold C D))
    (FU : Fn K mg "carry_out_untold" sCarryUntold ["house", "call"] fU fdU) (GU : FnOk P w K mg base CX0 7 fU fdU ["house", "call"] (spUntold C D)) : FnOk P w K mg base CX0 8 f fd ["house", "call"] (spCarry C D) := by
  refine F.F.ok scCarry (fun vs H Q E h => ?_) (fun cdv A outer s H vs Q E hr h => ?_)
  · obtain ⟨h, cl, ns, c, rfl, _⟩ := h
    rfl
  · obtain ⟨h, cl, ns, c, rfl, R, g, hc, is, k⟩ := h
    have hr1 : Room 1 _ := hr.mono (by decide)
    have hr5 : Room 5 _ := hr.mono (by decide)
    refine ⟨_, pss_cons (ps_if (pt_cmpR op_eq (pe_ix ix_list (pv 1) pe_int (fun _ _ => rfl)) (pgi T3.gWAIT) (nomark _)) (pss_one (ps_ret (pe_call GW hr5 rfl FW.m FW.F.kp FW.b .nil pass0 (pa_cons (pv 0) (pa_cons (pe_ix ix_list (pv 1) pe_int (fun _ _ => rfl)) (pa_cons (pe_ix ix_list (pv 1) pe_int (fun _ _ => rfl)) pa_nil)))))) pss_nil)
      (pss_cons (ps_if (pt_cmpR op_eq (pe_ix ix_list (pv 1) pe_int (fun _ _ => rfl)) (pgi T3.gTOLD) (nomark _)) (pss_one (ps_ret (pe_call GT hr1 rfl FT.m FT.F.kp FT.b .nil pass0 (pa_cons (pv 0) (pa_cons (pe_ix ix_list (pv 1) pe_int (fun _ _ => rfl)) pa_nil))))) pss_nil)
      (pss_one (ps_ret (pe_lst (pa_cons (pe_call GU hr rfl FU.m FU.F.kp FU.b .nil pass0 (pa_cons (pv 0) (pa_cons (pv 1) pa_nil))) pa_nil))))), ?_⟩
    have un : quiet c → Done C D H h c (fun v H' => 1 ≤ sizeLine ∧ ∀ r, H' r = none → Q (.ref r) (upd H' r (.lst [v]))) := fun qt h' H' ep R' g' st fr => by
      refine ⟨by decide, fun r hr0 => ?_⟩
      have s' : Same H' (upd H' r (.lst [V.int (Si24.plain h.st c).2.code])) := same_new hr0
      refine k h' _ r ep (R'.same s') g' st ⟨fun b o e n => s' b o (fr.1 b o e n), fr.2⟩ (fun b o e n => ne_of_none (fr.1 b o e n) hr0) ?_
      rw [upd_same, ansL_V, plain_more qt]; rfl
    have first : ∀ {x : Int} {rest : List Int}, ns = x :: rest → x ≠ 9 → x ≠ 11 → quiet c → (tSeq (tIfS (tTest (tOp rEq (tOp (rIxL K) (tVar 1) (tC (.int 0))) (tC (.int 9)))) (tRet (tCall (spWait C D) [] E0 (tCons (tVar 0) (tCons (tOp (rIxL K) (tVar 1) (tC (.int 1))) (tCons (tOp (rIxL K) (tVar 1) (tC (.int 2))) tNil))))) tNext)
        (tSeq (tIfS (tTest (tOp rEq (tOp (rIxL K) (tVar 1) (tC (.int 0))) (tC (.int 11)))) (tRet (tCall (spTold C D) [] E0 (tCons (tVar 0) (tCons (tOp (rIxL K) (tVar 1) (tC (.int 1))) tNil)))) tNext)
        (tRet (tLst (tCons (tCall (spUntold C D) [] E0 (tCons (tVar 0) (tCons (tVar 1) tNil))) tNil))))) { nx := fun _ H' => Q .non H', rt := Q } [some (.ref h.p), some (.ref cl)] H := fun {x rest} ens n9 n11 qt => by
      subst ens
      refine ⟨_, rfl, cl, _, _, _, rfl, rfl, SqL.of hc, at_of (j := 0) rfl rfl, rfl, _, rfl, kne n9 ?_⟩
      refine ⟨_, rfl, cl, _, _, _, rfl, rfl, SqL.of hc, at_of (j := 0) rfl rfl, rfl, _, rfl, kne n11 ?_⟩
      exact ⟨_, rfl, _, rfl, h, cl, _, c, rfl, R, g, hc, is, qt, un qt⟩
    cases is with
    | wait a b =>
      refine ⟨_, rfl, cl, _, _, _, rfl, rfl, SqL.of hc, at_of (j := 0) rfl rfl, rfl, _, rfl, keq rfl ?_⟩
      exact ⟨_, rfl, _, rfl, cl, _, _, _, rfl, rfl, SqL.of hc, at_of (j := 1) rfl rfl, _, rfl, cl, _, _, _, rfl, rfl, SqL.of hc, at_of (j := 2) rfl rfl, h, _, _, rfl, R, g, k⟩
    | told a =>
      refine ⟨_, rfl, cl, _, _, _, rfl, rfl, SqL.of hc, at_of (j := 0) rfl rfl, rfl, _, rfl, kne (by decide) ?_⟩
      refine ⟨_, rfl, cl, _, _, _, rfl, rfl, SqL.of hc, at_of (j := 0) rfl rfl, rfl, _, rfl, keq rfl ?_⟩
      exact ⟨_, rfl, _, rfl, cl, _, _, _, rfl, rfl, SqL.of hc, at_of (j := 1) rfl rfl, h, _, rfl, R, g, k⟩
    | _ => exact first rfl (by decide) (by decide) True.intro
end
end Rs
namespace Rs
open PySem L2
/-! ### answer -/
def stepL (s : Si24.St) (c : Si24.Call) : List Int :=
  if (Si24.plain s c).2.code < 0 then [(Si24.plain s c).2.code]
  else (Si24.plain s c).2.code :: ((Si24.plain s c).2.more.length : Int) :: (Si24Neutral.ints (Si24.plain s c).2.more ++ (((Si24.woken s (Si24.plain s c).1).length : Int) :: Si24Neutral.ints (Si24.woken s (Si24.plain s c).1)))
theorem step_is {s : Si24.St} {ns : List Int} {c : Si24.Call} (is : Is ns c) : Si24Neutral.step s [ns] = ((Si24.plain s c).1, stepL s c) := by
  cases is <;> rfl
theorem stepL_len {h : Ho} (g : HG0 h) (c : Si24.Call) : (stepL h.st c).length ≤ 403 := by
  unfold stepL
  split
  · show 1 ≤ 403; decide
  · have h1 := more_len g c
    have h2 := woken_len h.st (Si24.plain h.st c).1
    unfold Si24Neutral.ints
    rw [List.length_cons, List.length_cons, List.length_append, List.length_cons, List.length_map, List.length_map]
    omega
theorem cut_tail (x : V) (xs : List V) : cutV (x :: xs) (some 1) none = xs := by
  unfold cutV
  have e1 : HT.sIx (x :: xs).length 0 (some 1) = 1 := by
    have := HT.sIx_nat (x :: xs).length 0 1
    rw [List.length_cons] at this ⊢
    exact this.trans (by omega)
  rw [e1, HT.sIx_none]
  show xs.take ((x :: xs).length - 1) = xs
  rw [List.length_cons, Nat.add_sub_cancel, List.take_length]
section
variable {P : Program} {w : World} {K : PySem.W.Frag} {mg : Str → Option Value} {base : Heap} {C D : Addr}
def DoneA (C D : Addr) (H : Hp) (h : Ho) (c : Si24.Call) (Q : VK) : Prop := ∀ (h' : Ho) (H' : Hp) (r : Addr), h'.p = h.p → HAt C D H' h' → HGood h' → h'.st = (Si24.plain h.st c).1 → Fram H h H' h' →
  (∀ b o, H b = some o → ¬ Own h b → b ≠ r) → H' r = some (.lst ((stepL h.st c).map V.int)) → Q (.ref r) H'
def spAnswer (C D : Addr) : Sp := fun vs H Q _ => ∃ (h : Ho) (cl : Addr) (ns : List Int) (c : Si24.Call), vs = [.ref h.p, .ref cl] ∧ HAt C D H h ∧ HGood h ∧ H cl = some (.lst (ns.map V.int)) ∧ Is ns c ∧ DoneA C D H h c Q
theorem scAnswer : FnScope ["house", "call", "ready_before", "answered", "numbers", "woken", "number"] ["house", "call"] (defScope sAnswer) := ⟨rfl, rfl, rfl, by decide +kernel, rfl, by decide +kernel, by decide +kernel⟩
theorem bkAnswer : BlkOk ["house", "call", "ready_before", "answered", "numbers", "woken", "number"] (defScope sAnswer) (lcs [(".0", .local), ("number", .local), ("ready_before", .free)]) [("number", 6)] := ⟨rfl, by decide +kernel, by decide +kernel, by decide +kernel, by decide +kernel⟩
theorem own_some {H : Hp} {h : Ho} {so : HO} (R : HRd C D H h so) {b : Addr} (o : Own h b) : ∃ u, H b = some u := by
  rcases o with q | q | q | ⟨x, hx, q⟩ | ⟨x, hx, y, hy, q⟩
  · obtain ⟨dx, e⟩ := R.ob
    exact ⟨_, by rw [q]; exact e⟩
  · exact ⟨_, by rw [q]; exact R.lvl⟩
  · exact ⟨_, by rw [q]; exact R.sds⟩
  · exact ⟨_, by rw [q]; exact R.lst x hx⟩
  · obtain ⟨dx, e⟩ := R.mem x hx y hy
    exact ⟨_, by rw [q]; exact e⟩
theorem own_fresh {H : Hp} {h : Ho} {so : HO} (R : HRd C D H h so) {b : Addr} (n : H b = none) : ¬ Own h b := fun o => by
  obtain ⟨u, e⟩ := own_some R o
  rw [n] at e
  cases e
theorem filt_take {S : List Nat} {l : List Nat} {i x : Nat} (c : l[i]? = some x) : ((l.take (i + 1)).filter fun k => !decide (k ∈ S)) = if x ∈ S then (l.take i).filter fun k => !decide (k ∈ S) else ((l.take i).filter fun k => !decide (k ∈ S)) ++ [x] := by
  rw [List.take_add_one, c, List.filter_append]
  show _ ++ List.filter _ [x] = _
  by_cases q : x ∈ S
  · rw [if_pos q, List.filter_cons, if_neg (by rw [decide_eq_true q]; decide), List.filter_nil, List.append_nil]
  · rw [if_neg q, List.filter_cons, if_pos (by rw [decide_eq_false q]; rfl), List.filter_nil]
theorem ok_answer {f fR fC : Addr} {fd fdR fdC : FuncData} (F : Fn K mg "answer" sAnswer ["house", "call"] f fd) (T : Txt K mg C D) (T3 : Txt3 K mg) (FR : Fn K mg "ready_sets" sReadySets ["house"] fR fdR)
    (GR : FnOk P w K mg base CX0 4 fR fdR ["house"] (spReadySets C D)) (FC : Fn K mg "carry_out" sCarryOut ["house", "call"] fC fdC) (GC : FnOk P w K mg base CX0 8 fC fdC ["house", "call"] (spCarry C D)) :
    FnOk P w K mg base CX0 9 f fd ["house", "call"] (spAnswer C D) := by
  refine F.F.ok scAnswer (fun vs H Q E h => ?_) (fun cdv A outer s H vs Q E hr h => ?_)
  · obtain ⟨h, cl, ns, c, rfl, _⟩ := h
    rfl
  · obtain ⟨h, cl, ns, c, rfl, R, g, hc, is, k⟩ := h
    have hu := hu_of hr
    have hr4 : Room 4 _ := hr.mono (by decide)
    refine ⟨_, pss_cons (ps_set (i := 2) scAnswer.nd rfl (Or.inr rfl) (pe_call GR hr4 rfl FR.m FR.F.kp FR.b .nil pass0 (pa_cons (pv 0) pa_nil)))
      (pss_cons (ps_set (i := 3) scAnswer.nd rfl (Or.inl rfl) (pe_call GC hr rfl FC.m FC.F.kp FC.b .nil pass0 (pa_cons (pv 0) (pa_cons (pv 1) pa_nil))))
      (pss_cons (ps_if (pt_cmpR op_lt (pe_ix ix_list (pv 3) pe_int (fun _ _ => rfl)) pe_int (nomark _)) (pss_one (ps_ret (pv 3))) pss_nil)
      (pss_cons (ps_set (i := 4) scAnswer.nd rfl (Or.inl rfl) (pe_slice sl_list (pv 3) (po_some pe_int) po_none))
      (pss_cons (ps_setLc (i := 5) (own := [("number", 6)]) (tt := tB (tDNotIn (tVar 6) (tVar 2))) (te := tVar 6) rfl scAnswer.nd rfl rfl rfl
          (pi_list (pe_callB (cr_sortedD rfl) (by rfl) T3.bsorted PyProof.Rows.boot_sorted (pa_cons (pe_call GR hr4 rfl FR.m FR.F.kp FR.b .nil pass0 (pa_cons (pv 0) pa_nil)) pa_nil))) bkAnswer
          (fun _ _ _ _ _ => pg_name (i := 6) scAnswer.nd rfl (Or.inl rfl))
          (fun _ _ _ _ _ => pts_one (pt_cmp (pc_dnotin hu (pv 6) (pv 2)) (by with_unfolding_all rfl)))
          (fun _ _ _ _ _ => pv 6))
      (pss_one (ps_ret (pe_op op_cat (pe_op op_cat (pe_op op_cat (pe_lst (pa_cons (pe_ix ix_list (pv 3) pe_int (fun _ _ => rfl)) (pa_cons (pe_callB call_len_seq (by rfl) T.blen PySem.boot_len (pa_cons (pv 4) pa_nil)) pa_nil))) (pv 4))
        (pe_lst (pa_cons (pe_callB call_len_seq (by rfl) T.blen PySem.boot_len (pa_cons (pv 5) pa_nil)) pa_nil))) (pv 5)))))))), ?_⟩
    have hsz : 1000 < sizeLine := by decide
    refine ⟨_, rfl, h, rfl, R, g.toHG0, fun rd S H1 hrd hS rS s1 => ?_⟩
    have R1 := R.same s1
    refine ⟨_, rfl, _, rfl, h, cl, ns, c, rfl, R1, g, s1 _ _ hc, is, fun h' H2 r ep R2 g2 st2 fr2 nr hr2 => ?_⟩
    have nrd : ¬ Own h rd := own_fresh R hrd
    have fr0 : Fram H h H2 h' := ⟨fun b o e n => fr2.1 b o (s1 b o e) n, fun b o => (fr2.2 b o).imp id s1.free⟩
    have nr0 : ∀ b o, H b = some o → ¬ Own h b → b ≠ r := fun b o e n => nr b o (s1 b o e) n
    have hS2 := fr2.1 _ _ hS nrd
    have hml := more_len g.toHG0 c
    rw [ansL_V] at hr2
    refine ⟨_, rfl, r, _, _, _, rfl, rfl, SqL.of hr2, at_of (j := 0) rfl rfl, _, _, rfl, rfl, _, rfl, ?_⟩
    by_cases q : (Si24.plain h.st c).2.code < 0
    · rw [decide_eq_true q]
      refine iteT ⟨_, rfl, k h' H2 r ep R2 g2 st2 fr0 nr0 ?_⟩
      rw [hr2, plain_neg q]
      unfold stepL
      rw [if_pos q]; rfl
    · rw [decide_eq_false q]
      refine iteF ⟨_, rfl, _, rfl, r, _, rfl, SqL.of hr2, fun nb hnb => ?_⟩
      have ecut : cutV ([V.int (Si24.plain h.st c).2.code] ++ intsV (Si24.plain h.st c).2.more) (some 1) none = intsV (Si24.plain h.st c).2.more := cut_tail _ _
      rw [ecut]
      have s3 : Same H2 (upd H2 nb (.lst (intsV (Si24.plain h.st c).2.more))) := same_new hnb
      have hN3 : (upd H2 nb (.lst (intsV (Si24.plain h.st c).2.more))) nb = some (.lst (intsV (Si24.plain h.st c).2.more)) := upd_same
      generalize upd H2 nb (.lst (intsV (Si24.plain h.st c).2.more)) = H3 at s3 hN3 ⊢
      refine ⟨_, rfl, h', (by rw [ep]; rfl), R2.same s3, g2.toHG0, fun rd2 S2 H4 hrd2 hS4 rS2 s4 => ?_⟩
      have l16 : S2.length ≤ 16 := nodup_le16 rS2.1 fun j hj => isReady_lt ((rS2.2 j).mp hj)
      refine ⟨rd2, rkv S2, S2.map fun k : Nat => (k : Int), rfl, .inl hS4, (by unfold rkv; rw [List.map_map, List.map_map]; rfl), (by rw [List.length_map]; omega), fun ns' p pm pw hp => ?_⟩
      have ens := sorted_ready rS2.1 rS2.2 pm pw
      subst ens
      obtain ⟨l, el⟩ : ∃ l, l = (List.range 16).filter h'.st.isReady := ⟨_, rfl⟩
      rw [← el]
      have ll : l.length ≤ 16 := by rw [el]; exact Nat.le_trans (List.length_filter_le _ _) (Nat.le_of_eq List.length_range)
      have emap : (l.map fun k : Nat => (k : Int)).map V.int = intsV l := by rw [List.map_map]; rfl
      rw [emap]
      have s5 : Same H4 (upd H4 p (.lst (intsV l))) := same_new hp
      have hP5 : (upd H4 p (.lst (intsV l))) p = some (.lst (intsV l)) := upd_same
      generalize upd H4 p (.lst (intsV l)) = H5 at s5 hP5 ⊢
      have s25 : Same H2 H5 := (s3.trans s4).trans s5
      refine ⟨p, rfl, ⟨_, SqL.of hP5⟩, fun B hB => ?_⟩
      refine lcl_list (K := K) (a := p) (xs := intsV l) (fun i acc H' => Same H5 H' ∧ acc = intsV ((l.take i).filter fun k => !decide (k ∈ S))) ⟨same_new hB, rfl⟩ (fun i acc H' _ _ q => SqL.of (q.1 _ _ hP5)) ?_ ?_
      · rintro i x acc H' hi hD hac ⟨sm, rfl⟩
        obtain ⟨n, cn, rfl⟩ := ints_at hi
        have hil : i < l.length := (List.getElem?_eq_some_iff.mp cn).1
        have ws := filt_take (S := S) cn
        refine ⟨rfl, _, rfl, _, rfl, rd, _, rfl, .inl ⟨_, Sum.inl (n : Int), .inl (sm _ _ (s25 _ _ hS2)), rfl, rfl⟩, _, rfl, ?_⟩
        rw [valV_rkv]
        by_cases z : n ∈ S
        · rw [decide_eq_true z]
          rw [if_pos z] at ws
          exact iteF ⟨_, hD, Nat.le_succ_of_le hac, sm, by rw [ws]⟩
        · rw [decide_eq_false z]
          rw [if_neg z] at ws
          refine iteT ⟨_, rfl, _, hD, by omega, _, upd_same, (by rw [List.length_append]; show _ + 1 ≤ _; omega), fun b o y => by rw [upd_ne (ne_of_none y hB)]; exact sm b o y, ?_⟩
          rw [ws, intsV_append]; rfl
      · rintro acc H6 hW6 ⟨s6, rfl⟩
        have ewk : ((l.take (intsV l).length).filter fun k => !decide (k ∈ S)) = Si24.woken h.st (Si24.plain h.st c).1 := by
          rw [intsV_len, List.take_length, el, woken_eq (h := h) (h' := h') rS.2, st2]
        rw [ewk] at hW6
        have hwl := woken_len h.st (Si24.plain h.st c).1
        have s26 := s25.trans s6
        have hr6 := s26 _ _ hr2
        have hN6 := s6 _ _ (s5 _ _ (s4 _ _ hN3))
        refine ⟨_, rfl, r, _, _, _, rfl, rfl, SqL.of hr6, at_of (j := 0) rfl rfl, _, rfl, nb, _, rfl, .inl (SqL.of hN6), (by show 2 ≤ sizeLine; decide), fun q1 hq1 => ?_⟩
        rw [intsV_len]
        obtain ⟨A1, eA1⟩ : ∃ X, X = [V.int (Si24.plain h.st c).2.code, V.int ((Si24.plain h.st c).2.more.length : Nat)] := ⟨_, rfl⟩
        rw [← eA1]
        have lA1 : A1.length = 2 := by rw [eA1]; rfl
        have s7 : Same H6 (upd H6 q1 (.lst A1)) := same_new hq1
        have h7 : (upd H6 q1 (.lst A1)) q1 = some (.lst A1) := upd_same
        generalize upd H6 q1 (.lst A1) = H7 at s7 h7 ⊢
        have lM := intsV_len (Si24.plain h.st c).2.more
        refine ⟨_, rfl, q1, nb, _, _, rfl, rfl, h7, s7 _ _ hN6, (by omega), fun q2 hq2 => ?_⟩
        have s8 : Same H7 (upd H7 q2 (.lst (A1 ++ intsV (Si24.plain h.st c).2.more))) := same_new hq2
        have h8 : (upd H7 q2 (.lst (A1 ++ intsV (Si24.plain h.st c).2.more))) q2 = some (.lst (A1 ++ intsV (Si24.plain h.st c).2.more)) := upd_same
        generalize upd H7 q2 (.lst (A1 ++ intsV (Si24.plain h.st c).2.more)) = H8 at s8 h8 ⊢
        have hW8 := s8 _ _ (s7 _ _ hW6)
        have lW := intsV_len (Si24.woken h.st (Si24.plain h.st c).1)
        refine ⟨_, rfl, B, _, rfl, .inl (SqL.of hW8), (by show 1 ≤ sizeLine; decide), fun q3 hq3 => ?_⟩
        rw [intsV_len]
        have s9 : Same H8 (upd H8 q3 (.lst [V.int ((Si24.woken h.st (Si24.plain h.st c).1).length : Nat)])) := same_new hq3
        have h9 : (upd H8 q3 (.lst [V.int ((Si24.woken h.st (Si24.plain h.st c).1).length : Nat)])) q3 = some (.lst [V.int ((Si24.woken h.st (Si24.plain h.st c).1).length : Nat)]) := upd_same
        generalize upd H8 q3 (.lst [V.int ((Si24.woken h.st (Si24.plain h.st c).1).length : Nat)]) = H9 at s9 h9 ⊢
        refine ⟨q2, q3, _, _, rfl, rfl, s9 _ _ h8, h9, (by rw [List.length_append]; show _ + 1 ≤ _; omega), fun q4 hq4 => ?_⟩
        obtain ⟨A2, eA2⟩ : ∃ X, X = A1 ++ intsV (Si24.plain h.st c).2.more ++ [V.int ((Si24.woken h.st (Si24.plain h.st c).1).length : Nat)] := ⟨_, rfl⟩
        rw [← eA2]
        have lA2 : A2.length ≤ 387 := by rw [eA2, List.length_append, List.length_append]; show _ + 1 ≤ _; omega
        have s10 : Same H9 (upd H9 q4 (.lst A2)) := same_new hq4
        have h10 : (upd H9 q4 (.lst A2)) q4 = some (.lst A2) := upd_same
        generalize upd H9 q4 (.lst A2) = H10 at s10 h10 ⊢
        have s610 : Same H6 H10 := ((s7.trans s8).trans s9).trans s10
        refine ⟨_, rfl, q4, B, _, _, rfl, rfl, h10, s610 _ _ hW6, (by omega), fun r' hr' => ?_⟩
        have sE : Same H2 (upd H10 r' (.lst (A2 ++ intsV (Si24.woken h.st (Si24.plain h.st c).1)))) := (s26.trans s610).trans (same_new hr')
        refine k h' _ r' ep (R2.same sE) g2 st2 ⟨fun b o e n => sE b o (fr0.1 b o e n), fr0.2⟩ (fun b o e n => ne_of_none ((s26.trans s610) b o (fr0.1 b o e n)) hr') ?_
        rw [upd_same, eA2, eA1]
        unfold stepL
        rw [if_neg q]
        refine congrArg (fun z => some (HO.lst z)) ?_
        unfold intsV Si24Neutral.ints
        simp only [List.map_cons, List.map_append, List.map_map, List.append_assoc, List.cons_append, List.nil_append, Function.comp_def]
end
end Rs
namespace L2
open PySem PySem.Spec PyProof.Rows PySem.W
/-! ### a table of the file's top: whole numbers by whole numbers -/
def tTGet (K : PySem.W.Frag) (td ty : TE) : TE := fun σ H Q => td σ H fun x H1 => ty σ H1 fun y H2 => ∃ (d : Addr) (D : List (Int × PyData)) (k j : Int), x = .ref d ∧ KTD.keyedLook (fun b => K.lookup b) d D = true ∧ y = .int k ∧ KTD.datumAt k D = some (PyData.int j) ∧ Q (.int j) H2
theorem flat_int {v : Value} {j : Int} (h : Heap) (f : PyProof.V.Flat v (PyData.int j)) : ∃ t, v = .int j t := by
  have r := f h
  cases r
  exact ⟨_, rfl⟩
section
variable {X : Cx} {o i : Expr} {pos : Pos} {td ty : TE}
theorem pe_tget (ho : PE X o td) (hi : PE X i ty) (hs : NoSl i) : PE X (.Subscript o i pos) (tTGet X.K td ty) := by
  intro pins s σ H Q I h
  refine subD_of PySem.F.slot_dict_getitem.lookup hs (thn (ho pins s σ H _ I h) fun u s1 ⟨x, H1, I1, rx, q1⟩ => thn (hi pins s1 σ H1 _ I1 q1) fun iv s2 ⟨y, H2, I2, ry, d, D, k, j, ex, lk, ey, hv, q2⟩ => ?_)
  subst ex ey
  obtain rfl : u = Value.ref d := rx
  obtain ⟨t, rfl⟩ := ry
  obtain ⟨lo, kvs, dd, hf⟩ := kt_keyed_in (h := s2.heap) (fun b o e => I2.kIn b o e) lk X.prog X.w
  obtain ⟨v, hva, fl⟩ := hf.of_lookup PyProof.V.same_int (k := k) (by rw [KTD.lookup_keyed]; exact hv)
  obtain ⟨t', rfl⟩ := flat_int s2.heap fl
  exact ⟨dd.typeIs, wpAny_getItem_of (intKind_is _ _ _ _) dd.mapOf hva ⟨.int j, H2, I2.tok _, ⟨_, rfl⟩, q2⟩⟩
end
end L2
namespace Rs
open PySem L2
def nbD : List (Int × PyData) := [(0, .int 0), (1, .int 0), (2, .int 1), (3, .int 5), (4, .int 5), (5, .int 2), (6, .int 2), (7, .int 2), (8, .int 1), (9, .int 2), (10, .int 1), (11, .int 1)]
theorem nb_at {p : Int} (h0 : 0 ≤ p) (h1 : p ≤ 11) : PyProof.Rows.KTD.datumAt p nbD = some (PyData.int (behind p)) := by
  refine twelve (M := fun p => PyProof.Rows.KTD.datumAt p nbD = some (PyData.int (behind p))) h0 h1 fun n => ?_
  match n with
  | ⟨0, _⟩ => rfl
  | ⟨1, _⟩ => rfl
  | ⟨2, _⟩ => rfl
  | ⟨3, _⟩ => rfl
  | ⟨4, _⟩ => rfl
  | ⟨5, _⟩ => rfl
  | ⟨6, _⟩ => rfl
  | ⟨7, _⟩ => rfl
  | ⟨8, _⟩ => rfl
  | ⟨9, _⟩ => rfl
  | ⟨10, _⟩ => rfl
  | ⟨11, _⟩ => rfl
structure Txt4 (K : PySem.W.Frag) (mg : Str → Option Value) (nb : Addr) : Prop where
  m : mg "NUMBERS_BEHIND" = some (.ref nb)
  look : PyProof.Rows.KTD.keyedLook (fun b => K.lookup b) nb nbD = true
theorem nat_of {z : Int} (q : Si24Neutral.natural z 64 = true) : 0 ≤ z ∧ z < 2 ^ 64 := by
  unfold Si24Neutral.natural at q
  rw [Bool.and_eq_true, decide_eq_true_eq, decide_eq_true_eq] at q
  exact q
theorem nat5 {a b c d e : Int} (q : (Si24Neutral.whole32 a && (Si24Neutral.whole32 b && (Si24Neutral.whole32 c && (Si24Neutral.whole32 d && Si24Neutral.natural e 64)))) = true) : 0 ≤ e ∧ e < 2 ^ 64 := by
  rw [Bool.and_eq_true, Bool.and_eq_true, Bool.and_eq_true, Bool.and_eq_true] at q
  exact nat_of q.2.2.2.2
theorem is_of {p : Int} {r : List Int} (h0 : 0 ≤ p) (h1 : p ≤ 11) (hl : behind p ≤ r.length) (h : Si24Neutral.asked1 [p :: r.take (behind p)] = true) : ∃ c, Is (p :: r.take (behind p)) c := by
  revert h
  exact by_call (M := fun l => Si24Neutral.asked1 [l] = true → ∃ c, Is l c) h0 h1 hl (fun _ => ⟨_, .begins⟩) (fun _ => ⟨_, .opens⟩) (fun _ _ => ⟨_, .shut _⟩) (fun a b c d e h => ⟨_, .add a b c d e (nat5 h).1 (nat5 h).2⟩) (fun a b c d e h => ⟨_, .change a b c d e (nat5 h).1 (nat5 h).2⟩) (fun _ _ _ => ⟨_, .drop _ _⟩)
    (fun _ _ _ => ⟨_, .level _ _⟩) (fun _ _ _ => ⟨_, .poke _ _⟩) (fun _ _ => ⟨_, .gone _⟩) (fun _ _ _ => ⟨_, .wait _ _⟩) (fun _ _ => ⟨_, .ready _⟩) (fun _ _ => ⟨_, .told _⟩)
theorem cut_mid (xs : List V) {i j : Nat} (hj : j ≤ xs.length) (hi : i ≤ j) : cutV xs (some (i : Int)) (some (j : Int)) = (xs.drop i).take (j - i) := by
  unfold cutV
  rw [HT.sIx_nat, HT.sIx_nat, Nat.min_eq_left hj, Nat.min_eq_left (Nat.le_trans hi hj)]
section
variable {P : Program} {w : World} {K : PySem.W.Frag} {mg : Str → Option Value} {base : Heap} {C D : Addr}
theorem HRd.off {H : Hp} {h : Ho} {so : HO} (R : HRd C D H h so) {b : Addr} (n : ¬ Own h b) (o : HO) : HRd C D (upd H b o) h so := by
  have nb : ∀ c, Own h c → c ≠ b := fun c oc e => n (e ▸ oc)
  exact ⟨let ⟨dx, e⟩ := R.ob; ⟨dx, by rw [upd_ne (nb _ (.inl rfl))]; exact e⟩, by rw [upd_ne (nb _ (.inr (.inl rfl)))]; exact R.lvl, by rw [upd_ne (nb _ (.inr (.inr (.inl rfl))))]; exact R.sds, R.is,
    fun e he => by rw [upd_ne (nb _ (own_lst he))]; exact R.lst e he, fun e he x hx => let ⟨dx, q⟩ := R.mem e he x hx; ⟨dx, by rw [upd_ne (nb _ (own_mem he hx))]; exact q⟩⟩
/-! ### answers -/
def spAnswers (K : PySem.W.Frag) : Sp := fun vs H Q _ => ∃ (a : Addr) (ns : List Int), vs = [.ref a] ∧ SqL K H a (ns.map V.int) ∧ PySi24.answers_asked ns = true ∧ ∀ p H', H' p = some (.lst ((PySi24.answers ns).map V.int)) → Q (.ref p) H'
theorem scAnswers : FnScope ["calls", "house", "given", "place", "behind", "answered"] ["calls"] (defScope sAnswers) := ⟨rfl, rfl, rfl, by decide +kernel, rfl, by decide +kernel, by decide +kernel⟩
theorem ok_answers {f fI fA nb : Addr} {fd fdI fdA : FuncData} (F : Fn K mg "answers" sAnswers ["calls"] f fd) (T : Txt K mg C D) (T4 : Txt4 K mg nb) (MD : Mk K D fI) (bI : Binds K fdI ["self"] []) (GI : FnOk P w K mg base CX0 2 fI fdI ["self"] (spHouseInit D))
    (FA : Fn K mg "answer" sAnswer ["house", "call"] fA fdA) (GA : FnOk P w K mg base CX0 9 fA fdA ["house", "call"] (spAnswer C D)) : FnOk P w K mg base CX0 10 f fd ["calls"] (spAnswers K) := by
  refine F.F.ok scAnswers (fun vs H Q E h => ?_) (fun cdv A outer s H vs Q E hr h => ?_)
  · obtain ⟨a, ns, rfl, _⟩ := h
    rfl
  · obtain ⟨a, ns, rfl, hS, ask, k⟩ := h
    have hr3 : Room 3 _ := hr.mono (by decide)
    refine ⟨_, pss_cons (ps_set (i := 1) scAnswers.nd rfl (Or.inl rfl) (pe_make0 MD GI hr3 rfl T.mgD bI .nil pass0))
      (pss_cons (ps_set (i := 2) scAnswers.nd rfl (Or.inl rfl) (pe_lst pa_nil))
      (pss_cons (ps_set (i := 3) scAnswers.nd rfl (Or.inl rfl) pe_int)
      (pss_cons (ps_while PassesOwn.never (pt_cmpR op_lt (pv 3) (pe_callB call_len_seq (by rfl) T.blen PySem.boot_len (pa_cons (pv 0) pa_nil)) (nomark _))
        (pss_cons (ps_set (i := 4) scAnswers.nd rfl (Or.inl rfl) (pe_op op_add (pe_op op_add (pv 3) pe_int) (pe_tget (pe_glob (v := V.ref nb) (by rfl) T4.m rfl) (pe_ix ix_list (pv 0) (pv 3) (fun _ _ => rfl)) (fun _ _ => rfl))))
        (pss_cons (ps_set (i := 5) scAnswers.nd rfl (Or.inl rfl) (pe_call GA hr rfl FA.m FA.F.kp FA.b .nil pass0 (pa_cons (pv 1) (pa_cons (pe_slice sl_list (pv 0) (po_some (pv 3)) (po_some (pv 4))) pa_nil))))
        (pss_cons (ps_expr (pe_bm PySem.F.plainAttrs_list PySem.F.slot_list_append PySem.F.type_list_append mt_append (pv 2) (pa_cons (pe_callB call_len_seq (by rfl) T.blen PySem.boot_len (pa_cons (pv 5) pa_nil)) pa_nil)))
        (pss_cons (ps_expr (pe_bm PySem.F.plainAttrs_list PySem.F.slot_list_extend PySem.F.type_list_extend mt_extend (pv 2) (pa_cons (pv 5) pa_nil)))
        (pss_one (ps_set (i := 3) scAnswers.nd rfl (Or.inl rfl) (pv 4))))))))
      (pss_one (ps_ret (pv 2)))))), ?_⟩
    have hsz : 200000 < sizeLine := by decide
    obtain ⟨cs0, ecs, hfew, hask, _⟩ := asked_of ask
    intro x dx nx ndx nex
    refine ⟨x, dx, rfl, upd_same, fun lv sd H1 bg => ⟨rfl, ?_⟩⟩
    have s0 : Same H (upd (upd H dx (.own x)) x (.ins D dx [])) := fun b o e => by
      rw [upd_ne (ne_of_none e nx), upd_ne (ne_of_none e ndx)]
      exact e
    have s1 : Same H H1 := fun b o e => bg.2.2.2.2.2.2 b o (s0 b o e) (ne_of_none e nx)
    have R1 : HAt C D H1 (begun x lv sd) := begun_at bg
    have own1 : ∀ b, Own (begun x lv sd) b → H b = none := fun b o => by
      rcases o with q | q | q | ⟨y, hy, q⟩ | ⟨y, hy, q⟩
      · rw [q]; exact nx
      · rw [q]; exact s0.free bg.1
      · rw [q]; exact s0.free bg.2.1
      · cases hy
      · cases hy
    refine ⟨Nat.zero_le _, fun gv hgv => ?_⟩
    have hgv0 : H gv = none := s1.free hgv
    refine ⟨fun m σ H' => ∃ (h : Ho) (pl : Nat) (cs : List (List (List Int))) (out : List Int) (v4 v5 : Option V), σ = [some (.ref a), some (.ref x), some (.ref gv), some (.int pl), v4, v5] ∧ h.p = x ∧ HAt C D H' h ∧ HGood h ∧ Same H H' ∧ (∀ b, Own h b → H b = none) ∧ ¬ Own h gv ∧
        H' gv = some (.lst (out.map V.int)) ∧ pl ≤ ns.length ∧ Parse (ns.drop pl) cs ∧ (∀ c ∈ cs, Si24Neutral.asked1 c = true) ∧ out.length + 404 * cs.length ≤ 121200 ∧ PySi24.answers ns = out ++ PyFlat.told (PyFlat.played Si24Neutral.step h.st cs) ∧ m = ns.length - pl,
      ⟨_, begun x lv sd, 0, cs0, [], none, none, rfl, rfl, R1.same (same_new hgv), begun_good _ _ _, s1.trans (same_new hgv), own1, own_fresh R1 hgv, upd_same, Nat.zero_le _, parse_of ecs, hask, (by show 0 + _ ≤ _; omega), (by rw [answers_eq ecs, begun_st]; rfl), rfl⟩, ?_⟩
    rintro m σ H' ⟨h, pl, cs, out, v4, v5, rfl, ep, R, g, sm, own, ngv, hg, hpl, pr, hac, hol, ean, rfl⟩
    have hS' := sm.seq hS
    refine ⟨_, rfl, _, rfl, a, _, rfl, .inl hS', _, _, rfl, rfl, _, rfl, ?_⟩
    rw [List.length_map]
    by_cases q : pl < ns.length
    · rw [decide_eq_true (show (pl : Int) < ((ns.length : Nat) : Int) by omega)]
      obtain ⟨p, r, edr⟩ : ∃ p r, ns.drop pl = p :: r := by
        cases c : ns.drop pl with
        | nil => exact absurd (List.drop_eq_nil_iff.mp c) (by omega)
        | cons p r => exact ⟨p, r, rfl⟩
      rw [edr] at pr
      obtain ⟨p0, p11, hbl, cs', rfl, pr'⟩ := parse_cons pr
      obtain ⟨c, is⟩ := is_of p0 p11 hbl (hac _ List.mem_cons_self)
      have hrl : r.length + 1 + pl = ns.length := by
        have := congrArg List.length edr
        rw [List.length_drop, List.length_cons] at this
        omega
      have eat : (ns.map V.int)[pl]? = some (V.int p) := by
        rw [List.getElem?_map]
        have : ns[pl]? = some p := by
          have h0 : (ns.drop pl)[0]? = some p := by rw [edr]; rfl
          rw [List.getElem?_drop] at h0
          exact h0
        rw [this]; rfl
      have W' : ∀ σ' H2, (∃ (h : Ho) (pl' : Nat) (cs : List (List (List Int))) (out : List Int) (v4 v5 : Option V), σ' = [some (.ref a), some (.ref x), some (.ref gv), some (.int pl'), v4, v5] ∧ h.p = x ∧ HAt C D H2 h ∧ HGood h ∧ Same H H2 ∧ (∀ b, Own h b → H b = none) ∧ ¬ Own h gv ∧
          H2 gv = some (.lst (out.map V.int)) ∧ pl' ≤ ns.length ∧ Parse (ns.drop pl') cs ∧ (∀ c ∈ cs, Si24Neutral.asked1 c = true) ∧ out.length + 404 * cs.length ≤ 121200 ∧ PySi24.answers ns = out ++ PyFlat.told (PyFlat.played Si24Neutral.step h.st cs) ∧ pl < pl') →
          ∃ m', m' < ns.length - pl ∧ ∃ (h : Ho) (pl : Nat) (cs : List (List (List Int))) (out : List Int) (v4 v5 : Option V), σ' = [some (.ref a), some (.ref x), some (.ref gv), some (.int pl), v4, v5] ∧ h.p = x ∧ HAt C D H2 h ∧ HGood h ∧ Same H H2 ∧ (∀ b, Own h b → H b = none) ∧ ¬ Own h gv ∧
        H2 gv = some (.lst (out.map V.int)) ∧ pl ≤ ns.length ∧ Parse (ns.drop pl) cs ∧ (∀ c ∈ cs, Si24Neutral.asked1 c = true) ∧ out.length + 404 * cs.length ≤ 121200 ∧ PySi24.answers ns = out ++ PyFlat.told (PyFlat.played Si24Neutral.step h.st cs) ∧ m' = ns.length - pl := by
        rintro σ' H2 ⟨h, pl', cs, out, v4, v5, t1, t2, t3, t4, t5, t6, t7, t8, t9, t10, t11, t12, t13, t14⟩
        exact ⟨_, by omega, h, pl', cs, out, v4, v5, t1, t2, t3, t4, t5, t6, t7, t8, t9, t10, t11, t12, t13, rfl⟩
      refine iteT ⟨_, W', ?_⟩
      -- behind = place + 1 + NUMBERS_BEHIND[calls[place]]
      refine ⟨_, rfl, _, _, rfl, rfl, _, rfl, _, rfl, a, _, _, _, rfl, rfl, hS', at_of (j := pl) rfl eat, nb, nbD, p, _, rfl, T4.look, rfl, nb_at p0 p11, _, _, rfl, rfl, ?_⟩
      have eb : (pl : Int) + 1 + ((behind p : Nat) : Int) = ((pl + 1 + behind p : Nat) : Int) := by omega
      dsimp only
      rw [eb]
      -- answered = answer(house, calls[place:behind])
      refine ⟨_, rfl, _, rfl, _, rfl, _, rfl, _, rfl, _, rfl, a, _, rfl, hS', fun cl hcl => ?_⟩
      have ecut : cutV (ns.map V.int) (some (pl : Int)) (some ((pl + 1 + behind p : Nat) : Int)) = (p :: r.take (behind p)).map V.int := by
        rw [cut_mid _ (by rw [List.length_map]; omega) (by omega), ← List.map_drop, edr, ← List.map_take]
        congr 1
        rw [show pl + 1 + behind p - pl = behind p + 1 by omega, List.take_succ_cons]
      rw [ecut]
      have s2 : Same H' (upd H' cl (.lst ((p :: r.take (behind p)).map V.int))) := same_new hcl
      have hc2 : (upd H' cl (.lst ((p :: r.take (behind p)).map V.int))) cl = some (.lst ((p :: r.take (behind p)).map V.int)) := upd_same
      have f2 : ∀ b, (upd H' cl (.lst ((p :: r.take (behind p)).map V.int))) b = none → H' b = none := fun b e => (upd_none e).1
      generalize upd H' cl (.lst ((p :: r.take (behind p)).map V.int)) = H2 at s2 hc2 f2 ⊢
      refine ⟨h, cl, _, c, (by rw [ep]; rfl), R.same s2, g, hc2, is, fun h' H3 rr ep3 R3 g3 st3 fr3 nr hr3 => ?_⟩
      have hg2 := s2 _ _ hg
      have hg3 := fr3.1 _ _ hg2 ngv
      have ngv3 : ¬ Own h' gv := fun o => by
        rcases fr3.2 gv o with z | z
        · exact ngv z
        · rw [hg2] at z; cases z
      have nrg : rr ≠ gv := (nr _ _ hg2 ngv).symm
      have hsl := stepL_len g.toHG0 c
      rw [List.length_cons] at hol
      -- given.append(len(answered))
      refine ⟨_, rfl, .inl ⟨rfl, _, SqL.of hg3⟩, _, rfl, rr, _, rfl, .inl (SqL.of hr3), gv, _, _, rfl, rfl, hg3, (by rw [List.length_map]; omega), ?_⟩
      rw [List.length_map]
      -- given.extend(answered)
      refine ⟨_, rfl, .inl ⟨rfl, _, SqL.of upd_same⟩, _, rfl, gv, rr, _, _, rfl, rfl, upd_same, (by rw [upd_ne nrg]; exact hr3), (by rw [List.length_append, List.length_map, List.length_map]; show _ + 1 + _ ≤ _; omega), ?_⟩
      rw [upd_upd]
      -- place = behind
      refine ⟨_, rfl, ?_⟩
      have est : Si24Neutral.step h.st [p :: r.take (behind p)] = (h'.st, stepL h.st c) := by rw [step_is is, st3]
      refine ⟨h', pl + 1 + behind p, cs', out ++ ((stepL h.st c).length : Int) :: stepL h.st c, _, _, rfl, ep3.trans ep, R3.off ngv3 _, g3, fun b o e => ?_, fun b o => ?_, ngv3, ?_, by omega, ?_, fun c' hc' => hac c' (List.mem_cons_of_mem _ hc'), ?_, ?_, by omega⟩
      · have nb' : ¬ Own h b := fun ob => by rw [own b ob] at e; cases e
        rw [upd_ne (ne_of_none e hgv0)]
        exact fr3.1 b o (s2 b o (sm b o e)) nb'
      · rcases fr3.2 b o with z | z
        · exact own b z
        · exact sm.free (f2 b z)
      · rw [upd_same]
        simp only [List.map_append, List.map_cons, List.append_assoc, List.cons_append, List.nil_append]
      · have : ns.drop (pl + 1 + behind p) = r.drop (behind p) := by
          rw [Nat.add_assoc, ← List.drop_drop, edr, Nat.add_comm 1, List.drop_succ_cons]
        rw [this]
        exact pr'
      · rw [List.length_append, List.length_cons]
        omega
      · rw [ean]
        show out ++ PyFlat.told ((Si24Neutral.step h.st [p :: r.take (behind p)]).2 :: PyFlat.played Si24Neutral.step (Si24Neutral.step h.st [p :: r.take (behind p)]).1 cs') = _
        rw [est, told_cons, List.append_assoc]
    · rw [decide_eq_false (show ¬ (pl : Int) < ((ns.length : Nat) : Int) by omega)]
      have e0 : pl = ns.length := by omega
      rw [e0, List.drop_length] at pr
      have ec := parse_nil pr
      rw [ec] at ean
      refine iteF ⟨_, rfl, k gv H' ?_⟩
      rw [hg, ean]
      show _ = some (HO.lst ((out ++ PyFlat.told []).map V.int))
      rw [show PyFlat.told [] = [] from rfl, List.append_nil]
end
end Rs
namespace Rs
open PySem L2
/-! ### all the defs of the text -/
structure Defs (K : PySem.W.Frag) (mg : Str → Option Value) (C D : Addr) : Prop where
  initC : ∃ f fd, Mk K C f ∧ Fun K "__init__" "Member.__init__" sMemberInit f fd
  initD : ∃ f fd, Mk K D f ∧ Fun K "__init__" "House.__init__" sHouseInit f fd
  beginD : ∃ f fd, Meth K D "begin" f ∧ Fun K "begin" "House.begin" sBegin f fd
  isSet : ∃ f fd, Fn K mg "is_set" sIsSet ["source"] f fd
  newMember : ∃ f fd, Fn K mg "new_member" sNewMember ["house", "source", "bits", "mode", "data"] f fd
  hasMember : ∃ f fd, Fn K mg "has_member" sHasMember ["house", "number", "source"] f fd
  removeMember : ∃ f fd, Fn K mg "remove_member" sRemoveMember ["house", "number", "source"] f fd
  riseD : ∃ f fd, Fn K mg "rise" sRise ["house", "source", "bits"] f fd
  setsWithin : ∃ f fd, Fn K mg "sets_within" sSetsWithin ["house", "number"] f fd
  hasInIt : ∃ f fd, Fn K mg "has_in_it" sHasInIt ["house", "outer", "inner"] f fd
  showsD : ∃ f fd, Fn K mg "shows" sShows ["house", "member", "ready"] f fd
  showsSomething : ∃ f fd, Fn K mg "shows_something" sShowsSomething ["house", "number", "ready"] f fd
  readySets : ∃ f fd, Fn K mg "ready_sets" sReadySets ["house"] f fd
  sourceFits : ∃ f fd, Fn K mg "source_fits" sSourceFits ["source"] f fd
  sourceOrSetFits : ∃ f fd, Fn K mg "source_or_set_fits" sSourceOrSetFits ["source"] f fd
  bitsFit : ∃ f fd, Fn K mg "bits_fit" sBitsFit ["bits"] f fd
  memberFits : ∃ f fd, Fn K mg "member_fits" sMemberFits ["source", "bits", "mode"] f fd
  beginsD : ∃ f fd, Fn K mg "begins" sBegins ["house"] f fd
  opensD : ∃ f fd, Fn K mg "opens" sOpens ["house"] f fd
  shutD : ∃ f fd, Fn K mg "shut" sShut ["house", "number"] f fd
  setRefusal : ∃ f fd, Fn K mg "set_refusal" sSetRefusal ["house", "number", "inner", "mode"] f fd
  addRefusal : ∃ f fd, Fn K mg "add_refusal" sAddRefusal ["house", "number", "source", "bits", "mode"] f fd
  addD : ∃ f fd, Fn K mg "add" sAdd ["house", "number", "source", "bits", "mode", "data"] f fd
  changeRefusal : ∃ f fd, Fn K mg "change_refusal" sChangeRefusal ["house", "number", "source", "bits", "mode"] f fd
  changeD : ∃ f fd, Fn K mg "change" sChange ["house", "number", "source", "bits", "mode", "data"] f fd
  dropD : ∃ f fd, Fn K mg "drop" sDrop ["house", "number", "source"] f fd
  levelD : ∃ f fd, Fn K mg "level" sLevel ["house", "source", "bits"] f fd
  pokeD : ∃ f fd, Fn K mg "poke" sPoke ["house", "source", "bits"] f fd
  goneD : ∃ f fd, Fn K mg "gone" sGone ["house", "source"] f fd
  hadTurn : ∃ f fd, Fn K mg "had_its_turn" sHadTurn ["member"] f fd
  waitD : ∃ f fd, Fn K mg "wait" sWait ["house", "number", "most"] f fd
  readyD : ∃ f fd, Fn K mg "ready" sReady ["house", "number"] f fd
  toldD : ∃ f fd, Fn K mg "told" sTold ["house", "number"] f fd
  untoldD : ∃ f fd, Fn K mg "carry_out_untold" sCarryUntold ["house", "call"] f fd
  carryD : ∃ f fd, Fn K mg "carry_out" sCarryOut ["house", "call"] f fd
  answerD : ∃ f fd, Fn K mg "answer" sAnswer ["house", "call"] f fd
section
variable {P : Program} {w : World} {K : PySem.W.Frag} {mg : Str → Option Value} {base : Heap} {C D : Addr}
theorem fn_mk {h : Heap} {x : Str} {st : Stmt} {ps : List Str} {f : Addr} {oc : Value} {od an : Option Addr} {osl : Array (Option Value)} {kV doc pm cdv ct : Value} (X : K.In h) (G : h.Ns mainGlobals mg) (a : PySem.W.nsIn K mainGlobals x = some (some (.ref f)))
    (l : K.lookup f = some ⟨oc, od, .func (PySem.W.fnOf x x (defArgs st) (defBody st) (defScope st) .none kV doc pm an cdv ct), osl⟩) (c : PySem.W.codeIn K cdv x = true) (k : PySem.W.keepIn K (.ref f) = true)
    (b : ∀ {f : Addr} {fd : FuncData}, Fun K x x st f fd → Binds K fd ps []) : ∃ f fd, Fn K mg x st ps f fd :=
  ⟨f, _, fun_mk l c k, PySem.W.mg_of X G a, b (fun_mk l c k)⟩
theorem with_fn {R : Prop} {h : Heap} {x : Str} {st : Stmt} {ps : List Str} {f : Addr} {oc : Value} {od an : Option Addr} {osl : Array (Option Value)} {kV doc pm cdv ct : Value} (X : K.In h) (G : h.Ns mainGlobals mg) (b : ∀ {f : Addr} {fd : FuncData}, Fun K x x st f fd → Binds K fd ps [])
    (a : PySem.W.nsIn K mainGlobals x = some (some (.ref f))) (l : K.lookup f = some ⟨oc, od, .func (PySem.W.fnOf x x (defArgs st) (defBody st) (defScope st) .none kV doc pm an cdv ct), osl⟩) (c : PySem.W.codeIn K cdv x = true) (k : PySem.W.keepIn K (.ref f) = true)
    (r : (∃ f fd, Fn K mg x st ps f fd) → R) : R := r (fn_mk X G a l c k b)
theorem bd_initC {f : Addr} {fd : FuncData} (F : Fun K "__init__" "Member.__init__" sMemberInit f fd) : Binds K fd ["self", "source", "bits", "mode", "data", "risen"] [] := F.binds fun _ _ _ _ _ _ us hl => match us, hl with | [_, _, _, _, _, _], _ => rfl
theorem bd_initD {f : Addr} {fd : FuncData} (F : Fun K "__init__" "House.__init__" sHouseInit f fd) : Binds K fd ["self"] [] := F.binds fun _ _ _ _ _ _ us hl => match us, hl with | [_], _ => rfl
theorem bd_beginD {f : Addr} {fd : FuncData} (F : Fun K "begin" "House.begin" sBegin f fd) : Binds K fd ["self"] [] := F.binds fun _ _ _ _ _ _ us hl => match us, hl with | [_], _ => rfl
theorem bd_isSet {f : Addr} {fd : FuncData} (F : Fun K "is_set" "is_set" sIsSet f fd) : Binds K fd ["source"] [] := F.binds fun _ _ _ _ _ _ us hl => match us, hl with | [_], _ => rfl
theorem bd_newMember {f : Addr} {fd : FuncData} (F : Fun K "new_member" "new_member" sNewMember f fd) : Binds K fd ["house", "source", "bits", "mode", "data"] [] := F.binds fun _ _ _ _ _ _ us hl => match us, hl with | [_, _, _, _, _], _ => rfl
theorem bd_hasMember {f : Addr} {fd : FuncData} (F : Fun K "has_member" "has_member" sHasMember f fd) : Binds K fd ["house", "number", "source"] [] := F.binds fun _ _ _ _ _ _ us hl => match us, hl with | [_, _, _], _ => rfl
theorem bd_removeMember {f : Addr} {fd : FuncData} (F : Fun K "remove_member" "remove_member" sRemoveMember f fd) : Binds K fd ["house", "number", "source"] [] := F.binds fun _ _ _ _ _ _ us hl => match us, hl with | [_, _, _], _ => rfl
theorem bd_riseD {f : Addr} {fd : FuncData} (F : Fun K "rise" "rise" sRise f fd) : Binds K fd ["house", "source", "bits"] [] := F.binds fun _ _ _ _ _ _ us hl => match us, hl with | [_, _, _], _ => rfl
theorem bd_setsWithin {f : Addr} {fd : FuncData} (F : Fun K "sets_within" "sets_within" sSetsWithin f fd) : Binds K fd ["house", "number"] [] := F.binds fun _ _ _ _ _ _ us hl => match us, hl with | [_, _], _ => rfl
theorem bd_hasInIt {f : Addr} {fd : FuncData} (F : Fun K "has_in_it" "has_in_it" sHasInIt f fd) : Binds K fd ["house", "outer", "inner"] [] := F.binds fun _ _ _ _ _ _ us hl => match us, hl with | [_, _, _], _ => rfl
theorem bd_showsD {f : Addr} {fd : FuncData} (F : Fun K "shows" "shows" sShows f fd) : Binds K fd ["house", "member", "ready"] [] := F.binds fun _ _ _ _ _ _ us hl => match us, hl with | [_, _, _], _ => rfl
theorem bd_showsSomething {f : Addr} {fd : FuncData} (F : Fun K "shows_something" "shows_something" sShowsSomething f fd) : Binds K fd ["house", "number", "ready"] [] := F.binds fun _ _ _ _ _ _ us hl => match us, hl with | [_, _, _], _ => rfl
theorem bd_readySets {f : Addr} {fd : FuncData} (F : Fun K "ready_sets" "ready_sets" sReadySets f fd) : Binds K fd ["house"] [] := F.binds fun _ _ _ _ _ _ us hl => match us, hl with | [_], _ => rfl
theorem bd_sourceFits {f : Addr} {fd : FuncData} (F : Fun K "source_fits" "source_fits" sSourceFits f fd) : Binds K fd ["source"] [] := F.binds fun _ _ _ _ _ _ us hl => match us, hl with | [_], _ => rfl
theorem bd_sourceOrSetFits {f : Addr} {fd : FuncData} (F : Fun K "source_or_set_fits" "source_or_set_fits" sSourceOrSetFits f fd) : Binds K fd ["source"] [] := F.binds fun _ _ _ _ _ _ us hl => match us, hl with | [_], _ => rfl
theorem bd_bitsFit {f : Addr} {fd : FuncData} (F : Fun K "bits_fit" "bits_fit" sBitsFit f fd) : Binds K fd ["bits"] [] := F.binds fun _ _ _ _ _ _ us hl => match us, hl with | [_], _ => rfl
theorem bd_memberFits {f : Addr} {fd : FuncData} (F : Fun K "member_fits" "member_fits" sMemberFits f fd) : Binds K fd ["source", "bits", "mode"] [] := F.binds fun _ _ _ _ _ _ us hl => match us, hl with | [_, _, _], _ => rfl
theorem bd_beginsD {f : Addr} {fd : FuncData} (F : Fun K "begins" "begins" sBegins f fd) : Binds K fd ["house"] [] := F.binds fun _ _ _ _ _ _ us hl => match us, hl with | [_], _ => rfl
theorem bd_opensD {f : Addr} {fd : FuncData} (F : Fun K "opens" "opens" sOpens f fd) : Binds K fd ["house"] [] := F.binds fun _ _ _ _ _ _ us hl => match us, hl with | [_], _ => rfl
theorem bd_shutD {f : Addr} {fd : FuncData} (F : Fun K "shut" "shut" sShut f fd) : Binds K fd ["house", "number"] [] := F.binds fun _ _ _ _ _ _ us hl => match us, hl with | [_, _], _ => rfl
theorem bd_setRefusal {f : Addr} {fd : FuncData} (F : Fun K "set_refusal" "set_refusal" sSetRefusal f fd) : Binds K fd ["house", "number", "inner", "mode"] [] := F.binds fun _ _ _ _ _ _ us hl => match us, hl with | [_, _, _, _], _ => rfl
theorem bd_addRefusal {f : Addr} {fd : FuncData} (F : Fun K "add_refusal" "add_refusal" sAddRefusal f fd) : Binds K fd ["house", "number", "source", "bits", "mode"] [] := F.binds fun _ _ _ _ _ _ us hl => match us, hl with | [_, _, _, _, _], _ => rfl
theorem bd_addD {f : Addr} {fd : FuncData} (F : Fun K "add" "add" sAdd f fd) : Binds K fd ["house", "number", "source", "bits", "mode", "data"] [] := F.binds fun _ _ _ _ _ _ us hl => match us, hl with | [_, _, _, _, _, _], _ => rfl
theorem bd_changeRefusal {f : Addr} {fd : FuncData} (F : Fun K "change_refusal" "change_refusal" sChangeRefusal f fd) : Binds K fd ["house", "number", "source", "bits", "mode"] [] := F.binds fun _ _ _ _ _ _ us hl => match us, hl with | [_, _, _, _, _], _ => rfl
theorem bd_changeD {f : Addr} {fd : FuncData} (F : Fun K "change" "change" sChange f fd) : Binds K fd ["house", "number", "source", "bits", "mode", "data"] [] := F.binds fun _ _ _ _ _ _ us hl => match us, hl with | [_, _, _, _, _, _], _ => rfl
theorem bd_dropD {f : Addr} {fd : FuncData} (F : Fun K "drop" "drop" sDrop f fd) : Binds K fd ["house", "number", "source"] [] := F.binds fun _ _ _ _ _ _ us hl => match us, hl with | [_, _, _], _ => rfl
theorem bd_levelD {f : Addr} {fd : FuncData} (F : Fun K "level" "level" sLevel f fd) : Binds K fd ["house", "source", "bits"] [] := F.binds fun _ _ _ _ _ _ us hl => match us, hl with | [_, _, _], _ => rfl
theorem bd_pokeD {f : Addr} {fd : FuncData} (F : Fun K "poke" "poke" sPoke f fd) : Binds K fd ["house", "source", "bits"] [] := F.binds fun _ _ _ _ _ _ us hl => match us, hl with | [_, _, _], _ => rfl
theorem bd_goneD {f : Addr} {fd : FuncData} (F : Fun K "gone" "gone" sGone f fd) : Binds K fd ["house", "source"] [] := F.binds fun _ _ _ _ _ _ us hl => match us, hl with | [_, _], _ => rfl
theorem bd_hadTurn {f : Addr} {fd : FuncData} (F : Fun K "had_its_turn" "had_its_turn" sHadTurn f fd) : Binds K fd ["member"] [] := F.binds fun _ _ _ _ _ _ us hl => match us, hl with | [_], _ => rfl
theorem bd_waitD {f : Addr} {fd : FuncData} (F : Fun K "wait" "wait" sWait f fd) : Binds K fd ["house", "number", "most"] [] := F.binds fun _ _ _ _ _ _ us hl => match us, hl with | [_, _, _], _ => rfl
theorem bd_readyD {f : Addr} {fd : FuncData} (F : Fun K "ready" "ready" sReady f fd) : Binds K fd ["house", "number"] [] := F.binds fun _ _ _ _ _ _ us hl => match us, hl with | [_, _], _ => rfl
theorem bd_toldD {f : Addr} {fd : FuncData} (F : Fun K "told" "told" sTold f fd) : Binds K fd ["house", "number"] [] := F.binds fun _ _ _ _ _ _ us hl => match us, hl with | [_, _], _ => rfl
theorem bd_untoldD {f : Addr} {fd : FuncData} (F : Fun K "carry_out_untold" "carry_out_untold" sCarryUntold f fd) : Binds K fd ["house", "call"] [] := F.binds fun _ _ _ _ _ _ us hl => match us, hl with | [_, _], _ => rfl
theorem bd_carryD {f : Addr} {fd : FuncData} (F : Fun K "carry_out" "carry_out" sCarryOut f fd) : Binds K fd ["house", "call"] [] := F.binds fun _ _ _ _ _ _ us hl => match us, hl with | [_, _], _ => rfl
theorem bd_answerD {f : Addr} {fd : FuncData} (F : Fun K "answer" "answer" sAnswer f fd) : Binds K fd ["house", "call"] [] := F.binds fun _ _ _ _ _ _ us hl => match us, hl with | [_, _], _ => rfl
theorem bd_answersD {f : Addr} {fd : FuncData} (F : Fun K "answers" "answers" sAnswers f fd) : Binds K fd ["calls"] [] := F.binds fun _ _ _ _ _ _ us hl => match us, hl with | [_], _ => rfl
theorem answers_binds {f : Addr} {fd : FuncData} (F : Fun K "answers" "answers" sAnswers f fd) : ∀ (s : Shared) (v : Value), BindsTo s fd ⟨[v], []⟩ [("calls", v)] := by
  obtain ⟨oc, od, kV, doc, pm, an, cdv, ct, osl, rfl, lk, hcd⟩ := F.ex
  exact fun s v => .of_eq rfl
theorem all_ok {nb f : Addr} {fd : FuncData} (T : Txt K mg C D) (T2 : Txt2 K mg) (T3 : Txt3 K mg) (T4 : Txt4 K mg nb) (S : Defs K mg C D) (F : Fn K mg "answers" sAnswers ["calls"] f fd) : FnOk P w K mg base CX0 10 f fd ["calls"] (spAnswers K) := by
  obtain ⟨fiC, fdiC, MC, FiC⟩ := S.initC
  obtain ⟨fiD, fdiD, MD, FiD⟩ := S.initD
  obtain ⟨fbD, fdbD, mB, FbD⟩ := S.beginD
  obtain ⟨f_isSet, d_isSet, F_isSet⟩ := S.isSet
  obtain ⟨f_newMember, d_newMember, F_newMember⟩ := S.newMember
  obtain ⟨f_hasMember, d_hasMember, F_hasMember⟩ := S.hasMember
  obtain ⟨f_removeMember, d_removeMember, F_removeMember⟩ := S.removeMember
  obtain ⟨f_riseD, d_riseD, F_riseD⟩ := S.riseD
  obtain ⟨f_setsWithin, d_setsWithin, F_setsWithin⟩ := S.setsWithin
  obtain ⟨f_hasInIt, d_hasInIt, F_hasInIt⟩ := S.hasInIt
  obtain ⟨f_showsD, d_showsD, F_showsD⟩ := S.showsD
  obtain ⟨f_showsSomething, d_showsSomething, F_showsSomething⟩ := S.showsSomething
  obtain ⟨f_readySets, d_readySets, F_readySets⟩ := S.readySets
  obtain ⟨f_sourceFits, d_sourceFits, F_sourceFits⟩ := S.sourceFits
  obtain ⟨f_sourceOrSetFits, d_sourceOrSetFits, F_sourceOrSetFits⟩ := S.sourceOrSetFits
  obtain ⟨f_bitsFit, d_bitsFit, F_bitsFit⟩ := S.bitsFit
  obtain ⟨f_memberFits, d_memberFits, F_memberFits⟩ := S.memberFits
  obtain ⟨f_beginsD, d_beginsD, F_beginsD⟩ := S.beginsD
  obtain ⟨f_opensD, d_opensD, F_opensD⟩ := S.opensD
  obtain ⟨f_shutD, d_shutD, F_shutD⟩ := S.shutD
  obtain ⟨f_setRefusal, d_setRefusal, F_setRefusal⟩ := S.setRefusal
  obtain ⟨f_addRefusal, d_addRefusal, F_addRefusal⟩ := S.addRefusal
  obtain ⟨f_addD, d_addD, F_addD⟩ := S.addD
  obtain ⟨f_changeRefusal, d_changeRefusal, F_changeRefusal⟩ := S.changeRefusal
  obtain ⟨f_changeD, d_changeD, F_changeD⟩ := S.changeD
  obtain ⟨f_dropD, d_dropD, F_dropD⟩ := S.dropD
  obtain ⟨f_levelD, d_levelD, F_levelD⟩ := S.levelD
  obtain ⟨f_pokeD, d_pokeD, F_pokeD⟩ := S.pokeD
  obtain ⟨f_goneD, d_goneD, F_goneD⟩ := S.goneD
  obtain ⟨f_hadTurn, d_hadTurn, F_hadTurn⟩ := S.hadTurn
  obtain ⟨f_waitD, d_waitD, F_waitD⟩ := S.waitD
  obtain ⟨f_readyD, d_readyD, F_readyD⟩ := S.readyD
  obtain ⟨f_toldD, d_toldD, F_toldD⟩ := S.toldD
  obtain ⟨f_untoldD, d_untoldD, F_untoldD⟩ := S.untoldD
  obtain ⟨f_carryD, d_carryD, F_carryD⟩ := S.carryD
  obtain ⟨f_answerD, d_answerD, F_answerD⟩ := S.answerD
  have bB := bd_beginD FbD
  have G_initD : FnOk P w K mg base CX0 2 fiD fdiD ["self"] (spHouseInit D) := ok_house_init FiD T FbD bB mB
  have G_new : FnOk P w K mg base CX0 3 f_newMember d_newMember _ (spNewMember C D) := ok_new_member F_newMember T F_isSet MC FiC (bd_initC FiC)
  have G_shows : FnOk P w K mg base CX0 2 f_showsD d_showsD _ (spShows C D) := ok_shows F_showsD T F_isSet
  have G_ready : FnOk P w K mg base CX0 4 f_readySets d_readySets _ (spReadySets C D) := ok_ready_sets F_readySets T F_showsSomething F_showsD F_isSet
  have G_mf : FnOk P w K mg base CX0 2 f_memberFits d_memberFits _ spMemberFits := ok_member_fits F_memberFits T T2 F_sourceOrSetFits F_bitsFit
  have G_ar : FnOk P w K mg base CX0 5 f_addRefusal d_addRefusal _ (spAddRefusal C D) := ok_add_refusal F_addRefusal T T2 F_memberFits G_mf F_setRefusal F_hasInIt F_setsWithin F_isSet F_hasMember
  have G_cr : FnOk P w K mg base CX0 3 f_changeRefusal d_changeRefusal _ (spChangeRefusal C D) := ok_change_refusal F_changeRefusal T T2 F_memberFits G_mf F_isSet F_hasMember
  have G_wait : FnOk P w K mg base CX0 5 f_waitD d_waitD _ (spWait C D) := ok_wait F_waitD T T2 F_readySets G_ready F_showsD G_shows F_hadTurn
  have G_told : FnOk P w K mg base CX0 1 f_toldD d_toldD _ (spTold C D) := ok_told F_toldD T T2
  have CS : Calls P w K mg base C D :=
    ⟨⟨_, _, F_beginsD, ok_begins F_beginsD T FbD bB mB⟩, ⟨_, _, F_opensD, ok_opens F_opensD T T2⟩, ⟨_, _, F_shutD, ok_shut F_shutD T T2 F_removeMember⟩, ⟨_, _, F_addD, ok_add F_addD T T2 F_addRefusal G_ar F_newMember G_new⟩,
      ⟨_, _, F_changeD, ok_change F_changeD T T2 F_changeRefusal G_cr F_newMember G_new⟩, ⟨_, _, F_dropD, ok_drop F_dropD T T2 F_sourceOrSetFits F_hasMember F_removeMember⟩, ⟨_, _, F_levelD, ok_level F_levelD T T2 F_sourceFits F_bitsFit F_riseD⟩,
      ⟨_, _, F_pokeD, ok_poke F_pokeD T T2 F_sourceFits F_bitsFit F_riseD⟩, ⟨_, _, F_goneD, ok_gone F_goneD T T2 F_sourceFits F_hasMember F_removeMember⟩, ⟨_, _, F_readyD, ok_ready F_readyD T T2 F_readySets G_ready⟩⟩
  have G_un : FnOk P w K mg base CX0 7 f_untoldD d_untoldD _ (spUntold C D) := ok_untold F_untoldD T3 CS
  have G_co : FnOk P w K mg base CX0 8 f_carryD d_carryD _ (spCarry C D) := ok_carry_out F_carryD T3 F_waitD G_wait F_toldD G_told F_untoldD G_un
  have G_an : FnOk P w K mg base CX0 9 f_answerD d_answerD _ (spAnswer C D) := ok_answer F_answerD T T3 F_readySets G_ready F_carryD G_co
  exact ok_answers F T T4 MD (bd_initD FiD) G_initD F_answerD G_an
end
theorem walk {q : Program} {loose : List Str} {XP : (Str → Option Value) → Heap → Prop} {YP : World → Heap → Prop} {d : DefRec} {K : Params → PySem.W.Frag} (hdf : d.params.defaults = []) (hY : ∀ (w : World) (h : Heap), YP w h → (K w.params).In h)
    (F : ∀ (w : World) (mg : Str → Option Value) (fa : Addr) (h : Heap), (K w.params).In h → h.Ns mainGlobals mg → mg d.name = some (.ref fa) →
      ∃ fd : FuncData, (∀ (s : Shared) (u : Value), BindsTo s fd ⟨[u], []⟩ [("calls", u)]) ∧ ∀ base : Heap, (K w.params).In base → base.Ns mainGlobals mg → FnOk Att.rwS.prog w (K w.params) mg base CX0 10 fa fd ["calls"] (spAnswers (K w.params))) :
    PySem.W.WalkOS q loose XP YP Att.rwS d [] (fun f vs => PySem.call f vs) :=
  Att.walkS (k := 10) (x := "calls") (sp := fun w => spAnswers (K w.params)) hdf ⟨rfl, by decide, by decide⟩ hY F fun w H a ns hl hb hask hO hS => ⟨a, ns, rfl, hS, hask, fun p H' e => ⟨p, rfl, e⟩⟩
theorem fin_mk {K : PySem.W.Frag} {h : Heap} {w : World} {mg : Str → Option Value} {fa C D nb : Addr} {t_gSOURCES t_gSETS t_gREAD t_gALWAYS t_gLEVEL t_gEDGE t_gONCE t_gRANGE t_gTHERE t_gALLOWED t_gALREADY t_gFULL t_gBITS t_gMODE t_gMEMBERS t_gWAITED t_gBEGINS t_gOPENS t_gSHUT t_gADD t_gCHANGE t_gDROP t_gLEVEL6 t_gPOKE t_gGONE t_gWAIT t_gTOLD : Tok} {f1 : Addr} {od1 an1 : Option Addr} {sl1 : Array (Option Value)} {oc1 kV1 dc1 pm1 cd1 ct1 : Value} {f2 : Addr} {od2 an2 : Option Addr} {sl2 : Array (Option Value)} {oc2 kV2 dc2 pm2 cd2 ct2 : Value} {f3 : Addr} {od3 an3 : Option Addr} {sl3 : Array (Option Value)} {oc3 kV3 dc3 pm3 cd3 ct3 : Value}
    (X : K.In h) (G : h.Ns mainGlobals mg) (hfa : mg "answers" = some (.ref fa))
    (aC : PySem.W.nsIn K mainGlobals "Member" = some (some (.ref C)))
    (aD : PySem.W.nsIn K mainGlobals "House" = some (some (.ref D)))
    (aN : PySem.W.nsIn K mainGlobals "NUMBERS_BEHIND" = some (some (.ref nb)))
    (pgC : PySem.W.plainGet K C Str.empty = true)
    (hdC : PySem.W.hasDictIn K C = true)
    (poC : PySem.W.plainOver K C = true)
    (saC : PySem.W.findIn K (.ref C) "__setattr__" = some (some (.builtin "object.__setattr__")))
    (mkC : PySem.W.makesIn K C = true)
    (kcC : PySem.W.keepIn K (.ref C) = true)
    (pgD : PySem.W.plainGet K D Str.empty = true)
    (hdD : PySem.W.hasDictIn K D = true)
    (poD : PySem.W.plainOver K D = true)
    (saD : PySem.W.findIn K (.ref D) "__setattr__" = some (some (.builtin "object.__setattr__")))
    (mkD : PySem.W.makesIn K D = true)
    (kcD : PySem.W.keepIn K (.ref D) = true)
    (n_source : PySem.W.findIn K (.ref C) "source" = some none)
    (n_bits : PySem.W.findIn K (.ref C) "bits" = some none)
    (n_mode : PySem.W.findIn K (.ref C) "mode" = some none)
    (n_data : PySem.W.findIn K (.ref C) "data" = some none)
    (n_risen : PySem.W.findIn K (.ref C) "risen" = some none)
    (n_sleeps : PySem.W.findIn K (.ref C) "sleeps" = some none)
    (n_levels : PySem.W.findIn K (.ref D) "levels" = some none)
    (n_sets : PySem.W.findIn K (.ref D) "sets" = some none)
    (a1 : PySem.W.findIn K (.ref C) "__init__" = some (some (.ref f1)))
    (i1 : PySem.W.isFn K (.ref f1) = true)
    (l1 : K.lookup f1 = some ⟨oc1, od1, .func (PySem.W.fnOf "__init__" "Member.__init__" (defArgs sMemberInit) (defBody sMemberInit) (defScope sMemberInit) .none kV1 dc1 pm1 an1 cd1 ct1), sl1⟩)
    (c1 : PySem.W.codeIn K cd1 "Member.__init__" = true)
    (k1 : PySem.W.keepIn K (.ref f1) = true)
    (a2 : PySem.W.findIn K (.ref D) "__init__" = some (some (.ref f2)))
    (i2 : PySem.W.isFn K (.ref f2) = true)
    (l2 : K.lookup f2 = some ⟨oc2, od2, .func (PySem.W.fnOf "__init__" "House.__init__" (defArgs sHouseInit) (defBody sHouseInit) (defScope sHouseInit) .none kV2 dc2 pm2 an2 cd2 ct2), sl2⟩)
    (c2 : PySem.W.codeIn K cd2 "House.__init__" = true)
    (k2 : PySem.W.keepIn K (.ref f2) = true)
    (a3 : PySem.W.findIn K (.ref D) "begin" = some (some (.ref f3)))
    (i3 : PySem.W.isFn K (.ref f3) = true)
    (l3 : K.lookup f3 = some ⟨oc3, od3, .func (PySem.W.fnOf "begin" "House.begin" (defArgs sBegin) (defBody sBegin) (defScope sBegin) .none kV3 dc3 pm3 an3 cd3 ct3), sl3⟩)
    (c3 : PySem.W.codeIn K cd3 "House.begin" = true)
    (k3 : PySem.W.keepIn K (.ref f3) = true)
    (gSOURCES : PySem.W.nsIn K mainGlobals "SOURCES" = some (some (.int 256 t_gSOURCES)))
    (gSETS : PySem.W.nsIn K mainGlobals "SETS" = some (some (.int 16 t_gSETS)))
    (gREAD : PySem.W.nsIn K mainGlobals "READ" = some (some (.int 1 t_gREAD)))
    (gALWAYS : PySem.W.nsIn K mainGlobals "ALWAYS_WANTED" = some (some (.int 12 t_gALWAYS)))
    (gLEVEL : PySem.W.nsIn K mainGlobals "BY_LEVEL" = some (some (.int 0 t_gLEVEL)))
    (gEDGE : PySem.W.nsIn K mainGlobals "BY_EDGE" = some (some (.int 1 t_gEDGE)))
    (gONCE : PySem.W.nsIn K mainGlobals "ONCE" = some (some (.int 2 t_gONCE)))
    (gRANGE : PySem.W.nsIn K mainGlobals "NOT_IN_RANGE" = some (some (.int (-1) t_gRANGE)))
    (gTHERE : PySem.W.nsIn K mainGlobals "NOT_THERE" = some (some (.int (-2) t_gTHERE)))
    (gALLOWED : PySem.W.nsIn K mainGlobals "SET_NOT_ALLOWED" = some (some (.int (-3) t_gALLOWED)))
    (gALREADY : PySem.W.nsIn K mainGlobals "MEMBER_ALREADY" = some (some (.int (-4) t_gALREADY)))
    (gFULL : PySem.W.nsIn K mainGlobals "FULL" = some (some (.int (-5) t_gFULL)))
    (gBITS : PySem.W.nsIn K mainGlobals "MOST_BITS" = some (some (.int 15 t_gBITS)))
    (gMODE : PySem.W.nsIn K mainGlobals "MOST_MODE" = some (some (.int 2 t_gMODE)))
    (gMEMBERS : PySem.W.nsIn K mainGlobals "MOST_MEMBERS" = some (some (.int 64 t_gMEMBERS)))
    (gWAITED : PySem.W.nsIn K mainGlobals "MOST_WAITED_FOR" = some (some (.int 64 t_gWAITED)))
    (gBEGINS : PySem.W.nsIn K mainGlobals "BEGINS" = some (some (.int 0 t_gBEGINS)))
    (gOPENS : PySem.W.nsIn K mainGlobals "OPENS" = some (some (.int 1 t_gOPENS)))
    (gSHUT : PySem.W.nsIn K mainGlobals "SHUT" = some (some (.int 2 t_gSHUT)))
    (gADD : PySem.W.nsIn K mainGlobals "ADD" = some (some (.int 3 t_gADD)))
    (gCHANGE : PySem.W.nsIn K mainGlobals "CHANGE" = some (some (.int 4 t_gCHANGE)))
    (gDROP : PySem.W.nsIn K mainGlobals "DROP" = some (some (.int 5 t_gDROP)))
    (gLEVEL6 : PySem.W.nsIn K mainGlobals "LEVEL" = some (some (.int 6 t_gLEVEL6)))
    (gPOKE : PySem.W.nsIn K mainGlobals "POKE" = some (some (.int 7 t_gPOKE)))
    (gGONE : PySem.W.nsIn K mainGlobals "GONE" = some (some (.int 8 t_gGONE)))
    (gWAIT : PySem.W.nsIn K mainGlobals "WAIT" = some (some (.int 9 t_gWAIT)))
    (gTOLD : PySem.W.nsIn K mainGlobals "TOLD" = some (some (.int 11 t_gTOLD)))
    (b_any : PySem.W.nsIn K mainGlobals "any" = some none)
    (b_len : PySem.W.nsIn K mainGlobals "len" = some none)
    (b_range : PySem.W.nsIn K mainGlobals "range" = some none)
    (b_list : PySem.W.nsIn K mainGlobals "list" = some none)
    (b_sorted : PySem.W.nsIn K mainGlobals "sorted" = some none)
    (lk : PyProof.Rows.KTD.keyedLook (fun b => K.lookup b) nb nbD = true)
    (S : (∃ f fd, Mk K C f ∧ Fun K "__init__" "Member.__init__" sMemberInit f fd) → (∃ f fd, Mk K D f ∧ Fun K "__init__" "House.__init__" sHouseInit f fd) → (∃ f fd, Meth K D "begin" f ∧ Fun K "begin" "House.begin" sBegin f fd) → Defs K mg C D)
    (F : ∃ f fd, Fn K mg "answers" sAnswers ["calls"] f fd) :
    ∃ fd : FuncData, (∀ (s : Shared) (u : Value), BindsTo s fd ⟨[u], []⟩ [("calls", u)]) ∧ ∀ base : Heap, K.In base → base.Ns mainGlobals mg → FnOk Att.rwS.prog w K mg base CX0 10 fa fd ["calls"] (spAnswers K) := by
  obtain ⟨f, fd, F⟩ := F
  have e := hfa.symm.trans F.m
  cases e
  have T : Txt K mg C D := ⟨⟨pgC, hdC, poC, saC⟩, n_source, n_bits, n_mode, n_data, n_risen, n_sleeps, PySem.W.mg_of X G aC, ⟨pgD, hdD, poD, saD⟩, n_levels, n_sets, PySem.W.mg_of X G aD, ⟨_, PySem.W.mg_of X G gSOURCES⟩, ⟨_, PySem.W.mg_of X G gSETS⟩, ⟨_, PySem.W.mg_of X G gREAD⟩, ⟨_, PySem.W.mg_of X G gALWAYS⟩, ⟨_, PySem.W.mg_of X G gLEVEL⟩, ⟨_, PySem.W.mg_of X G gEDGE⟩, ⟨_, PySem.W.mg_of X G gONCE⟩, PySem.W.mg_none_of X G b_any, PySem.W.mg_none_of X G b_len⟩
  have T2 : Txt2 K mg := ⟨⟨_, PySem.W.mg_of X G gRANGE⟩, ⟨_, PySem.W.mg_of X G gTHERE⟩, ⟨_, PySem.W.mg_of X G gALLOWED⟩, ⟨_, PySem.W.mg_of X G gALREADY⟩, ⟨_, PySem.W.mg_of X G gFULL⟩, ⟨_, PySem.W.mg_of X G gBITS⟩, ⟨_, PySem.W.mg_of X G gMODE⟩, ⟨_, PySem.W.mg_of X G gMEMBERS⟩, ⟨_, PySem.W.mg_of X G gWAITED⟩, PySem.W.mg_none_of X G b_range, PySem.W.mg_none_of X G b_list⟩
  have T3 : Txt3 K mg := ⟨⟨_, PySem.W.mg_of X G gBEGINS⟩, ⟨_, PySem.W.mg_of X G gOPENS⟩, ⟨_, PySem.W.mg_of X G gSHUT⟩, ⟨_, PySem.W.mg_of X G gADD⟩, ⟨_, PySem.W.mg_of X G gCHANGE⟩, ⟨_, PySem.W.mg_of X G gDROP⟩, ⟨_, PySem.W.mg_of X G gLEVEL6⟩, ⟨_, PySem.W.mg_of X G gPOKE⟩, ⟨_, PySem.W.mg_of X G gGONE⟩, ⟨_, PySem.W.mg_of X G gWAIT⟩, ⟨_, PySem.W.mg_of X G gTOLD⟩, PySem.W.mg_none_of X G b_sorted⟩
  have T4 : Txt4 K mg nb := ⟨PySem.W.mg_of X G aN, lk⟩
  have DS := S ⟨f1, _, ⟨mkC, a1, i1, kcC⟩, fun_mk (st := sMemberInit) l1 c1 k1⟩ ⟨f2, _, ⟨mkD, a2, i2, kcD⟩, fun_mk (st := sHouseInit) l2 c2 k2⟩ ⟨f3, _, ⟨a3, i3, k3⟩, fun_mk (st := sBegin) l3 c3 k3⟩
  exact ⟨fd, answers_binds F.F, fun base _ _ => all_ok T T2 T3 T4 DS F⟩
end Rs
open PySem PySem.W PyProof.Rows
set_option maxRecDepth 100000 in
set_option maxHeartbeats 0 in
theorem PySem.Challenge.cw_readysets_s01_answers_holds : PySem.Challenge.rw_readysets_s01_answers.Holds := by
  w_on; k_headS; (case hw => exact ⟨[.list [.int 0]], by decide +kernel, by decide +kernel⟩)
  k_fillS
  refine Rs.walk rfl (fun w h Y => PySem.W.kIn_of Y) ?F
  intro w mg fa h KX G hmg
  refine' Rs.with_fn (x := "is_set") (st := Rs.sIsSet) (ps := ["source"]) KX G Rs.bd_isSet ?a_isSet ?l_isSet ?c_isSet ?k_isSet (fun S_isSet => ?r_isSet)
  (case a_isSet => k_is)
  (case l_isSet => k_is)
  (case c_isSet => k_is)
  (case k_isSet => k_is)
  refine' Rs.with_fn (x := "new_member") (st := Rs.sNewMember) (ps := ["house", "source", "bits", "mode", "data"]) KX G Rs.bd_newMember ?a_newMember ?l_newMember ?c_newMember ?k_newMember (fun S_newMember => ?r_newMember)
  (case a_newMember => k_is)
  (case l_newMember => k_is)
  (case c_newMember => k_is)
  (case k_newMember => k_is)
  refine' Rs.with_fn (x := "has_member") (st := Rs.sHasMember) (ps := ["house", "number", "source"]) KX G Rs.bd_hasMember ?a_hasMember ?l_hasMember ?c_hasMember ?k_hasMember (fun S_hasMember => ?r_hasMember)
  (case a_hasMember => k_is)
  (case l_hasMember => k_is)
  (case c_hasMember => k_is)
  (case k_hasMember => k_is)
  refine' Rs.with_fn (x := "remove_member") (st := Rs.sRemoveMember) (ps := ["house", "number", "source"]) KX G Rs.bd_removeMember ?a_removeMember ?l_removeMember ?c_removeMember ?k_removeMember (fun S_removeMember => ?r_removeMember)
  (case a_removeMember => k_is)
  (case l_removeMember => k_is)
  (case c_removeMember => k_is)
  (case k_removeMember => k_is)
  refine' Rs.with_fn (x := "rise") (st := Rs.sRise) (ps := ["house", "source", "bits"]) KX G Rs.bd_riseD ?a_riseD ?l_riseD ?c_riseD ?k_riseD (fun S_riseD => ?r_riseD)
  (case a_riseD => k_is)
  (case l_riseD => k_is)
  (case c_riseD => k_is)
  (case k_riseD => k_is)
  refine' Rs.with_fn (x := "sets_within") (st := Rs.sSetsWithin) (ps := ["house", "number"]) KX G Rs.bd_setsWithin ?a_setsWithin ?l_setsWithin ?c_setsWithin ?k_setsWithin (fun S_setsWithin => ?r_setsWithin)
  (case a_setsWithin => k_is)
  (case l_setsWithin => k_is)
  (case c_setsWithin => k_is)
  (case k_setsWithin => k_is)
  refine' Rs.with_fn (x := "has_in_it") (st := Rs.sHasInIt) (ps := ["house", "outer", "inner"]) KX G Rs.bd_hasInIt ?a_hasInIt ?l_hasInIt ?c_hasInIt ?k_hasInIt (fun S_hasInIt => ?r_hasInIt)
  (case a_hasInIt => k_is)
  (case l_hasInIt => k_is)
  (case c_hasInIt => k_is)
  (case k_hasInIt => k_is)
  refine' Rs.with_fn (x := "shows") (st := Rs.sShows) (ps := ["house", "member", "ready"]) KX G Rs.bd_showsD ?a_showsD ?l_showsD ?c_showsD ?k_showsD (fun S_showsD => ?r_showsD)
  (case a_showsD => k_is)
  (case l_showsD => k_is)
  (case c_showsD => k_is)
  (case k_showsD => k_is)
  refine' Rs.with_fn (x := "shows_something") (st := Rs.sShowsSomething) (ps := ["house", "number", "ready"]) KX G Rs.bd_showsSomething ?a_showsSomething ?l_showsSomething ?c_showsSomething ?k_showsSomething (fun S_showsSomething => ?r_showsSomething)
  (case a_showsSomething => k_is)
  (case l_showsSomething => k_is)
  (case c_showsSomething => k_is)
  (case k_showsSomething => k_is)
  refine' Rs.with_fn (x := "ready_sets") (st := Rs.sReadySets) (ps := ["house"]) KX G Rs.bd_readySets ?a_readySets ?l_readySets ?c_readySets ?k_readySets (fun S_readySets => ?r_readySets)
  (case a_readySets => k_is)
  (case l_readySets => k_is)
  (case c_readySets => k_is)
  (case k_readySets => k_is)
  refine' Rs.with_fn (x := "source_fits") (st := Rs.sSourceFits) (ps := ["source"]) KX G Rs.bd_sourceFits ?a_sourceFits ?l_sourceFits ?c_sourceFits ?k_sourceFits (fun S_sourceFits => ?r_sourceFits)
  (case a_sourceFits => k_is)
  (case l_sourceFits => k_is)
  (case c_sourceFits => k_is)
  (case k_sourceFits => k_is)
  refine' Rs.with_fn (x := "source_or_set_fits") (st := Rs.sSourceOrSetFits) (ps := ["source"]) KX G Rs.bd_sourceOrSetFits ?a_sourceOrSetFits ?l_sourceOrSetFits ?c_sourceOrSetFits ?k_sourceOrSetFits (fun S_sourceOrSetFits => ?r_sourceOrSetFits)
  (case a_sourceOrSetFits => k_is)
  (case l_sourceOrSetFits => k_is)
  (case c_sourceOrSetFits => k_is)
  (case k_sourceOrSetFits => k_is)
  refine' Rs.with_fn (x := "bits_fit") (st := Rs.sBitsFit) (ps := ["bits"]) KX G Rs.bd_bitsFit ?a_bitsFit ?l_bitsFit ?c_bitsFit ?k_bitsFit (fun S_bitsFit => ?r_bitsFit)
  (case a_bitsFit => k_is)
  (case l_bitsFit => k_is)
  (case c_bitsFit => k_is)
  (case k_bitsFit => k_is)
  refine' Rs.with_fn (x := "member_fits") (st := Rs.sMemberFits) (ps := ["source", "bits", "mode"]) KX G Rs.bd_memberFits ?a_memberFits ?l_memberFits ?c_memberFits ?k_memberFits (fun S_memberFits => ?r_memberFits)
  (case a_memberFits => k_is)
  (case l_memberFits => k_is)
  (case c_memberFits => k_is)
  (case k_memberFits => k_is)
  refine' Rs.with_fn (x := "begins") (st := Rs.sBegins) (ps := ["house"]) KX G Rs.bd_beginsD ?a_beginsD ?l_beginsD ?c_beginsD ?k_beginsD (fun S_beginsD => ?r_beginsD)
  (case a_beginsD => k_is)
  (case l_beginsD => k_is)
  (case c_beginsD => k_is)
  (case k_beginsD => k_is)
  refine' Rs.with_fn (x := "opens") (st := Rs.sOpens) (ps := ["house"]) KX G Rs.bd_opensD ?a_opensD ?l_opensD ?c_opensD ?k_opensD (fun S_opensD => ?r_opensD)
  (case a_opensD => k_is)
  (case l_opensD => k_is)
  (case c_opensD => k_is)
  (case k_opensD => k_is)
  refine' Rs.with_fn (x := "shut") (st := Rs.sShut) (ps := ["house", "number"]) KX G Rs.bd_shutD ?a_shutD ?l_shutD ?c_shutD ?k_shutD (fun S_shutD => ?r_shutD)
  (case a_shutD => k_is)
  (case l_shutD => k_is)
  (case c_shutD => k_is)
  (case k_shutD => k_is)
  refine' Rs.with_fn (x := "set_refusal") (st := Rs.sSetRefusal) (ps := ["house", "number", "inner", "mode"]) KX G Rs.bd_setRefusal ?a_setRefusal ?l_setRefusal ?c_setRefusal ?k_setRefusal (fun S_setRefusal => ?r_setRefusal)
  (case a_setRefusal => k_is)
  (case l_setRefusal => k_is)
  (case c_setRefusal => k_is)
  (case k_setRefusal => k_is)
  refine' Rs.with_fn (x := "add_refusal") (st := Rs.sAddRefusal) (ps := ["house", "number", "source", "bits", "mode"]) KX G Rs.bd_addRefusal ?a_addRefusal ?l_addRefusal ?c_addRefusal ?k_addRefusal (fun S_addRefusal => ?r_addRefusal)
  (case a_addRefusal => k_is)
  (case l_addRefusal => k_is)
  (case c_addRefusal => k_is)
  (case k_addRefusal => k_is)
  refine' Rs.with_fn (x := "add") (st := Rs.sAdd) (ps := ["house", "number", "source", "bits", "mode", "data"]) KX G Rs.bd_addD ?a_addD ?l_addD ?c_addD ?k_addD (fun S_addD => ?r_addD)
  (case a_addD => k_is)
  (case l_addD => k_is)
  (case c_addD => k_is)
  (case k_addD => k_is)
  refine' Rs.with_fn (x := "change_refusal") (st := Rs.sChangeRefusal) (ps := ["house", "number", "source", "bits", "mode"]) KX G Rs.bd_changeRefusal ?a_changeRefusal ?l_changeRefusal ?c_changeRefusal ?k_changeRefusal (fun S_changeRefusal => ?r_changeRefusal)
  (case a_changeRefusal => k_is)
  (case l_changeRefusal => k_is)
  (case c_changeRefusal => k_is)
  (case k_changeRefusal => k_is)
  refine' Rs.with_fn (x := "change") (st := Rs.sChange) (ps := ["house", "number", "source", "bits", "mode", "data"]) KX G Rs.bd_changeD ?a_changeD ?l_changeD ?c_changeD ?k_changeD (fun S_changeD => ?r_changeD)
  (case a_changeD => k_is)
  (case l_changeD => k_is)
  (case c_changeD => k_is)
  (case k_changeD => k_is)
  refine' Rs.with_fn (x := "drop") (st := Rs.sDrop) (ps := ["house", "number", "source"]) KX G Rs.bd_dropD ?a_dropD ?l_dropD ?c_dropD ?k_dropD (fun S_dropD => ?r_dropD)
  (case a_dropD => k_is)
  (case l_dropD => k_is)
  (case c_dropD => k_is)
  (case k_dropD => k_is)
  refine' Rs.with_fn (x := "level") (st := Rs.sLevel) (ps := ["house", "source", "bits"]) KX G Rs.bd_levelD ?a_levelD ?l_levelD ?c_levelD ?k_levelD (fun S_levelD => ?r_levelD)
  (case a_levelD => k_is)
  (case l_levelD => k_is)
  (case c_levelD => k_is)
  (case k_levelD => k_is)
  refine' Rs.with_fn (x := "poke") (st := Rs.sPoke) (ps := ["house", "source", "bits"]) KX G Rs.bd_pokeD ?a_pokeD ?l_pokeD ?c_pokeD ?k_pokeD (fun S_pokeD => ?r_pokeD)
  (case a_pokeD => k_is)
  (case l_pokeD => k_is)
  (case c_pokeD => k_is)
  (case k_pokeD => k_is)
  refine' Rs.with_fn (x := "gone") (st := Rs.sGone) (ps := ["house", "source"]) KX G Rs.bd_goneD ?a_goneD ?l_goneD ?c_goneD ?k_goneD (fun S_goneD => ?r_goneD)
  (case a_goneD => k_is)
  (case l_goneD => k_is)
  (case c_goneD => k_is)
  (case k_goneD => k_is)
  refine' Rs.with_fn (x := "had_its_turn") (st := Rs.sHadTurn) (ps := ["member"]) KX G Rs.bd_hadTurn ?a_hadTurn ?l_hadTurn ?c_hadTurn ?k_hadTurn (fun S_hadTurn => ?r_hadTurn)
  (case a_hadTurn => k_is)
  (case l_hadTurn => k_is)
  (case c_hadTurn => k_is)
  (case k_hadTurn => k_is)
  refine' Rs.with_fn (x := "wait") (st := Rs.sWait) (ps := ["house", "number", "most"]) KX G Rs.bd_waitD ?a_waitD ?l_waitD ?c_waitD ?k_waitD (fun S_waitD => ?r_waitD)
  (case a_waitD => k_is)
  (case l_waitD => k_is)
  (case c_waitD => k_is)
  (case k_waitD => k_is)
  refine' Rs.with_fn (x := "ready") (st := Rs.sReady) (ps := ["house", "number"]) KX G Rs.bd_readyD ?a_readyD ?l_readyD ?c_readyD ?k_readyD (fun S_readyD => ?r_readyD)
  (case a_readyD => k_is)
  (case l_readyD => k_is)
  (case c_readyD => k_is)
  (case k_readyD => k_is)
  refine' Rs.with_fn (x := "told") (st := Rs.sTold) (ps := ["house", "number"]) KX G Rs.bd_toldD ?a_toldD ?l_toldD ?c_toldD ?k_toldD (fun S_toldD => ?r_toldD)
  (case a_toldD => k_is)
  (case l_toldD => k_is)
  (case c_toldD => k_is)
  (case k_toldD => k_is)
  refine' Rs.with_fn (x := "carry_out_untold") (st := Rs.sCarryUntold) (ps := ["house", "call"]) KX G Rs.bd_untoldD ?a_untoldD ?l_untoldD ?c_untoldD ?k_untoldD (fun S_untoldD => ?r_untoldD)
  (case a_untoldD => k_is)
  (case l_untoldD => k_is)
  (case c_untoldD => k_is)
  (case k_untoldD => k_is)
  refine' Rs.with_fn (x := "carry_out") (st := Rs.sCarryOut) (ps := ["house", "call"]) KX G Rs.bd_carryD ?a_carryD ?l_carryD ?c_carryD ?k_carryD (fun S_carryD => ?r_carryD)
  (case a_carryD => k_is)
  (case l_carryD => k_is)
  (case c_carryD => k_is)
  (case k_carryD => k_is)
  refine' Rs.with_fn (x := "answer") (st := Rs.sAnswer) (ps := ["house", "call"]) KX G Rs.bd_answerD ?a_answerD ?l_answerD ?c_answerD ?k_answerD (fun S_answerD => ?r_answerD)
  (case a_answerD => k_is)
  (case l_answerD => k_is)
  (case c_answerD => k_is)
  (case k_answerD => k_is)
  refine' Rs.with_fn (x := "answers") (st := Rs.sAnswers) (ps := ["calls"]) KX G Rs.bd_answersD ?a_answersD ?l_answersD ?c_answersD ?k_answersD (fun S_answersD => ?r_answersD)
  (case a_answersD => k_is)
  (case l_answersD => k_is)
  (case c_answersD => k_is)
  (case k_answersD => k_is)
  refine' Rs.fin_mk KX G hmg ?aC ?aD ?aN ?pgC ?hdC ?poC ?saC ?mkC ?kcC ?pgD ?hdD ?poD ?saD ?mkD ?kcD ?n_source ?n_bits ?n_mode ?n_data ?n_risen ?n_sleeps ?n_levels ?n_sets ?a1 ?i1 ?l1 ?c1 ?k1 ?a2 ?i2 ?l2 ?c2 ?k2 ?a3 ?i3 ?l3 ?c3 ?k3 ?gSOURCES ?gSETS ?gREAD ?gALWAYS ?gLEVEL ?gEDGE ?gONCE ?gRANGE ?gTHERE ?gALLOWED ?gALREADY ?gFULL ?gBITS ?gMODE ?gMEMBERS ?gWAITED ?gBEGINS ?gOPENS ?gSHUT ?gADD ?gCHANGE ?gDROP ?gLEVEL6 ?gPOKE ?gGONE ?gWAIT ?gTOLD ?b_any ?b_len ?b_range ?b_list ?b_sorted ?lk (fun s1 s2 s3 => ⟨s1, s2, s3, S_isSet, S_newMember, S_hasMember, S_removeMember, S_riseD, S_setsWithin, S_hasInIt, S_showsD, S_showsSomething, S_readySets, S_sourceFits, S_sourceOrSetFits, S_bitsFit, S_memberFits, S_beginsD, S_opensD, S_shutD, S_setRefusal, S_addRefusal, S_addD, S_changeRefusal, S_changeD, S_dropD, S_levelD, S_pokeD, S_goneD, S_hadTurn, S_waitD, S_readyD, S_toldD, S_untoldD, S_carryD, S_answerD⟩) S_answersD
  (case aC => k_is)
  (case aD => k_is)
  (case aN => k_is)
  (case pgC => k_is)
  (case hdC => k_is)
  (case poC => k_is)
  (case saC => k_is)
  (case mkC => k_is)
  (case kcC => k_is)
  (case pgD => k_is)
  (case hdD => k_is)
  (case poD => k_is)
  (case saD => k_is)
  (case mkD => k_is)
  (case kcD => k_is)
  (case n_source => k_is)
  (case n_bits => k_is)
  (case n_mode => k_is)
  (case n_data => k_is)
  (case n_risen => k_is)
  (case n_sleeps => k_is)
  (case n_levels => k_is)
  (case n_sets => k_is)
  (case a1 => k_is)
  (case i1 => k_is)
  (case l1 => k_is)
  (case c1 => k_is)
  (case k1 => k_is)
  (case a2 => k_is)
  (case i2 => k_is)
  (case l2 => k_is)
  (case c2 => k_is)
  (case k2 => k_is)
  (case a3 => k_is)
  (case i3 => k_is)
  (case l3 => k_is)
  (case c3 => k_is)
  (case k3 => k_is)
  (case gSOURCES => k_is)
  (case gSETS => k_is)
  (case gREAD => k_is)
  (case gALWAYS => k_is)
  (case gLEVEL => k_is)
  (case gEDGE => k_is)
  (case gONCE => k_is)
  (case gRANGE => k_is)
  (case gTHERE => k_is)
  (case gALLOWED => k_is)
  (case gALREADY => k_is)
  (case gFULL => k_is)
  (case gBITS => k_is)
  (case gMODE => k_is)
  (case gMEMBERS => k_is)
  (case gWAITED => k_is)
  (case gBEGINS => k_is)
  (case gOPENS => k_is)
  (case gSHUT => k_is)
  (case gADD => k_is)
  (case gCHANGE => k_is)
  (case gDROP => k_is)
  (case gLEVEL6 => k_is)
  (case gPOKE => k_is)
  (case gGONE => k_is)
  (case gWAIT => k_is)
  (case gTOLD => k_is)
  (case b_any => k_is)
  (case b_len => k_is)
  (case b_range => k_is)
  (case b_list => k_is)
  (case b_sorted => k_is)
  (case lk => kernel_rfl)
#print axioms PySem.Challenge.cw_readysets_s01_answers_holds
