import PyProof.Rows.All
import Wide.All
import OpenK.AllK
import Wide.FinOn
import PyProof.EqAt
import PyProof.EqKinds
import PyProof.TupleCall
import KE.BitLaws
import KE.KMinBuiltin
import KE.KRevSl
import KE.RegKTryMore
import PyProof.RulesMatch
import PyProof.RulesMatchSeq
import PyProof.Rows.MatchSeqLen
import PyProof.DictCompW
import PyProof.P3Eq
import PySem.Challenge.RW_frothwane_k57_orders_written_and_read
-- CHANGE: your row's module here, as the last of these rows
set_option Elab.async false
set_option linter.all false
set_option maxRecDepth 100000
/-! THE HAND LAYER, for ints, bools, texts, own classes, lists, tuples, dicts, comprehensions, walks over dicts, enumerate, zip, reversed, texts, calls, loops. Paste it whole ahead of your own text; what your proof does not reach may be deleted. -/
namespace L2
open PySem PySem.Spec PyProof.Rows

/-- a key: an int or a str -/
abbrev Key := Sum Int Str
def keyIs : Key → Value → Bool
  | .inl k, v => Value.isInt k v
  | .inr x, v => Value.isStrOf x v
def keyH (w : World) : Key → Int
  | .inl k => hashInt k
  | .inr x => hashStr w x
theorem keyIs_shape : ∀ {k : Key} {v : Value}, keyIs k v = true → (∃ i t, k = Sum.inl i ∧ v = Value.int i t) ∨ (∃ x t, k = Sum.inr x ∧ v = Value.str x t)
  | .inl i, v, h => by
    obtain ⟨t, e⟩ := Value.isInt_shape (k := i) (v := v) h
    exact .inl ⟨i, t, rfl, e⟩
  | .inr x, v, h => by
    obtain ⟨t, e⟩ := Value.isStrOf_shape (x := x) (v := v) h
    exact .inr ⟨x, t, rfl, e⟩
theorem keyIs_int (i : Int) (t : Tok) : keyIs (.inl i) (.int i t) = true := by simp [keyIs, Value.isInt]
theorem keyIs_str (x : Str) (t : Tok) : keyIs (.inr x) (.str x t) = true := by simp [keyIs, Value.isStrOf]
theorem key_ll (a b : Int) : decide ((Sum.inl a : Key) = Sum.inl b) = (a == b) := by
  by_cases e : a = b
  · subst e; simp
  · have h : ¬ (Sum.inl a : Key) = Sum.inl b := fun q => e (Sum.inl.inj q)
    rw [decide_eq_false h]
    exact (beq_eq_false_iff_ne.mpr e).symm
theorem key_rr (a b : Str) : decide ((Sum.inr a : Key) = Sum.inr b) = decide (a = b) := by
  by_cases e : a = b
  · subst e; simp
  · have h : ¬ (Sum.inr a : Key) = Sum.inr b := fun q => e (Sum.inr.inj q)
    rw [decide_eq_false h, decide_eq_false e]
theorem key_lr (a : Int) (b : Str) : decide ((Sum.inl a : Key) = Sum.inr b) = false := decide_eq_false (fun q => nomatch q)
theorem key_rl (a : Str) (b : Int) : decide ((Sum.inr a : Key) = Sum.inl b) = false := decide_eq_false (fun q => nomatch q)

def mixKind (prog : Program) (w : World) : PySem.KeyKind prog w Key where
  is := keyIs
  hash := keyH w
  inj := fun v a b ha hb => by
    rcases keyIs_shape ha with ⟨i, t, rfl, rfl⟩ | ⟨x, t, rfl, rfl⟩
    · rcases keyIs_shape hb with ⟨j, u, rfl, e⟩ | ⟨y, u, rfl, e⟩
      · injection e with e1 _; rw [e1]
      · exact nomatch e
    · rcases keyIs_shape hb with ⟨j, u, rfl, e⟩ | ⟨y, u, rfl, e⟩
      · exact nomatch e
      · injection e with e1 _; rw [e1]
  byValue := fun k v h => by
    rcases keyIs_shape h with ⟨i, t, rfl, rfl⟩ | ⟨x, t, rfl, rfl⟩ <;> rfl
  pyHash := fun hv h => by
    rcases keyIs_shape hv with ⟨i, t, rfl, rfl⟩ | ⟨x, t, rfl, rfl⟩
    · exact wpAny_pyHash_int h
    · exact wpAny_pyHash_str h
  eqBool := fun hu hv h => by
    rcases keyIs_shape hu with ⟨i, t, rfl, rfl⟩ | ⟨x, t, rfl, rfl⟩
    · rcases keyIs_shape hv with ⟨j, u, rfl, rfl⟩ | ⟨y, u, rfl, rfl⟩
      · rw [key_ll] at h; exact wpAny_eqBool_int h
      · rw [key_lr] at h; exact SeqAt.EqAt.int_str i t y u _ _ _ _ h
    · rcases keyIs_shape hv with ⟨j, u, rfl, rfl⟩ | ⟨y, u, rfl, rfl⟩
      · rw [key_rl] at h; exact SeqAt.EqAt.str_int x t j u _ _ _ _ h
      · rw [key_rr] at h; exact wpAny_eqBool_str h
  «strs» := fun k x t v h => by
    rcases keyIs_shape h with ⟨i, u, rfl, e⟩ | ⟨y, u, rfl, e⟩
    · exact nomatch e
    · injection e with e1 _
      subst e1
      cases v <;> rfl

theorem mixKind_int (prog : Program) (w : World) (i : Int) (t : Tok) : (mixKind prog w).is (.inl i) (.int i t) = true := keyIs_int i t
theorem mixKind_str (prog : Program) (w : World) (x : Str) (t : Tok) : (mixKind prog w).is (.inr x) (.str x t) = true := keyIs_str x t
end L2

namespace L2
open PySem PySem.Spec PyProof.Rows

/-- a value, without the heap -/
inductive V where
  | non | bl (b : Bool) | int (i : Int) | str (x : Str) | byt (b : Array UInt8) | flt (b : UInt64) | ref (a : Addr) | ty (n : String)
  deriving DecidableEq

def RelV : V → Value → Prop
  | .non, u => u = Value.none
  | .bl b, u => u = Value.bool b
  | .int i, u => ∃ t, u = Value.int i t
  | .str x, u => ∃ t, u = Value.str x t
  | .byt b, u => ∃ t, u = Value.bytes b t
  | .flt b, u => ∃ t, u = Value.float b t
  | .ref a, u => u = Value.ref a
  | .ty n, u => u = Value.type n

abbrev Vals : List V → List Value → Prop := Paired RelV
theorem Vals.length {xs : List V} {us : List Value} (r : Vals xs us) : xs.length = us.length := Paired.length r
theorem Vals.get : ∀ {xs : List V} {us : List Value} {i : Nat} {x : V}, Vals xs us → xs[i]? = some x → ∃ u, us[i]? = some u ∧ RelV x u
  | _, _, _, _, .nil, e => by simp at e
  | _, _, 0, _, .cons r _, e => by simp at e; subst e; exact ⟨_, rfl, r⟩
  | _, _, i + 1, x, .cons _ t, e => by
    obtain ⟨u, h1, h2⟩ := Vals.get (i := i) (x := x) t (by simpa using e)
    exact ⟨u, by simpa using h1, h2⟩
theorem Vals.set {x : V} {u : Value} (r : RelV x u) : ∀ {xs : List V} {us : List Value} (i : Nat), Vals xs us → Vals (xs.set i x) (us.set i u)
  | _, _, _, .nil => .nil
  | _, _, 0, .cons _ t => .cons r t
  | _, _, i + 1, .cons q t => .cons q (Vals.set r i t)
theorem Vals.append : ∀ {xs ys : List V} {us ws : List Value}, Vals xs us → Vals ys ws → Vals (xs ++ ys) (us ++ ws)
  | _, _, _, _, .nil, s => s
  | _, _, _, _, .cons r t, s => .cons r (Vals.append t s)
theorem Vals.take : ∀ {xs : List V} {us : List Value} (n : Nat), Vals xs us → Vals (xs.take n) (us.take n)
  | _, _, 0, _ => .nil
  | _, _, _ + 1, .nil => .nil
  | _, _, n + 1, .cons r t => .cons r (Vals.take n t)
theorem Vals.drop : ∀ {xs : List V} {us : List Value} (n : Nat), Vals xs us → Vals (xs.drop n) (us.drop n)
  | _, _, 0, r => r
  | _, _, _ + 1, .nil => .nil
  | _, _, n + 1, .cons _ t => Vals.drop n t
def RelO : Option V → Option Value → Prop
  | some v, some u => RelV v u
  | none, none => True
  | _, _ => False
def KV {κ : Type} : List (κ × V) → List (κ × Value) → Prop := Paired fun (p : κ × V) (q : κ × Value) => p.1 = q.1 ∧ RelV p.2 q.2

/-- a key of a dict (00_mix): an int or a text -/
def kV : Key → V
  | .inl i => .int i
  | .inr x => .str x

/-- what stands at a tracked address -/
inductive HO where
  /-- a list -/
  | lst (xs : List V)
  /-- a tuple (never changes) -/
  | tup (xs : List V)
  /-- a dict whose keys are ints and texts; one whose keys are tuples of ints and texts (the empty one is both) -/
  | dK (kvs : List (Key × V)) | dT (kvs : List (List Key × V))
  /-- a set of ints: its members, its size -/
  | set (S : Int → Bool) (n : Nat)
  /-- an instance of the class at C, its dict at dx, its attributes -/
  | ins (C dx : Addr) (fs : List (Str × V))
  /-- the dict of the instance at x -/
  | own (x : Addr)
  /-- the dict of an exception -/
  | xd (fs : List (Str × V))
  /-- a bound method, f of x -/
  | met (f x : Addr)
  /-- a range object lo, lo + 1, .. below hi -/
  | rng (lo hi : Int)
  /-- a thing that is known to the object (the script; a dict while a loop walks it): read, never written while it is so -/
  | frz (o : Obj) (u : HO)
  /-- a code object's table -/
  | tbl (ps : Array Value)
  /-- any other thing, by what is true of its one object (a def of one's own: SetO a S n := HO.ext fun h => ..) -/
  | ext (φ : Heap → Prop)

abbrev Hp := Addr → Option HO
def upd (H : Hp) (a : Addr) (o : HO) : Hp := fun b => if b = a then some o else H b
theorem upd_same {H : Hp} {a : Addr} {o : HO} : upd H a o a = some o := by unfold upd; rw [if_pos rfl]
theorem upd_ne {H : Hp} {a b : Addr} {o : HO} (h : b ≠ a) : upd H a o b = H b := by unfold upd; rw [if_neg h]
theorem ne_of_none {H : Hp} {a b : Addr} {o : HO} (h : H a = some o) (h' : H b = none) : a ≠ b := by
  intro e; subst e; rw [h] at h'; cases h'

section
variable (P : Program) (w : World)
def ObjOk (H : Hp) (h : Heap) (a : Addr) : HO → Prop
  | .lst xs => xs.length ≤ sizeLine ∧ ∃ (its : List Value) (n : Nat), Vals xs its ∧ h.get? a = some { cls := .type "list", data := .seq its.toArray n }
  | .tup xs => xs.length ≤ sizeLine ∧ ∃ its : List Value, Vals xs its ∧ IsTup h a its.toArray
  | .dK kvs => kvs.length ≤ sizeLine ∧ (a == sysModules) = false ∧ ∃ vs, KV kvs vs ∧ h.DictOf (mixKind P w) a vs
  | .dT kvs => kvs.length ≤ sizeLine ∧ (a == sysModules) = false ∧ ∃ xs : List (List Key × Addr × Value),
      Paired (fun (p : List Key × V) (q : List Key × Addr × Value) => p.1 = q.1 ∧ H q.2.1 = some (.tup (p.1.map kV)) ∧ RelV p.2 q.2.2) kvs xs ∧
      ∃ o es ep, h.get? a = some o ∧ o.ExactDict ∧ o.data = .dict es ep ∧ es.toList = xs.map (entryOfKey (tupleKind (mixKind P w))) ∧ (xs.map (·.1)).Nodup
  | .set S n => h.SetOf (intKind P w) a S n
  | .ins C dx fs => H dx = some (.own a) ∧ fs.length ≤ 1000 ∧ dx ≠ a ∧ h.get? a = some (PySem.W.instObj C dx) ∧
      ∃ mA, h.Ns1 dx mA ∧ (∀ f, RelO (fs.lookup f) (mA f)) ∧ PySem.Within mA (fs.map (·.1))
  | .own _ => ∃ o, h.get? a = some o
  | .xd fs => ∃ mA, h.Ns1 a mA ∧ ∀ f, RelO (fs.lookup f) (mA f)
  | .rng lo hi => ∃ t u v, h.get? a = some { cls := .type "range", data := .fields #[.int lo t, .int hi u, .int 1 v] }
  | .frz o u => h.get? a = some o ∧ ObjOk H h a u
  | .tbl ps => h.get? a = some { cls := .none, data := .fields ps }
  | .met f x => h.get? a = some (PySem.W.methodObj (.ref f) (.ref x))
  | .ext φ => φ h ∧ (∃ o, h.get? a = some o) ∧ ∀ h1 h2 : Heap, φ h1 → (∀ o, h1.get? a = some o → h2.get? a = some o) → φ h2
/-- the abstract heap is held -/
def HOk (H : Hp) (h : Heap) : Prop := ∀ a o, H a = some o → ObjOk P w H h a o
end

section
variable {P : Program} {w : World} {H H' : Hp} {h h' : Heap} {a : Addr} {o : HO}
theorem ObjOk.lt (x : ObjOk P w H h a o) : a < h.objs.size := by
  cases o with
  | lst xs => obtain ⟨_, _, _, _, e⟩ := x; exact Heap.lt_size e
  | tup xs => obtain ⟨_, _, _, p⟩ := x; exact p.lt
  | dK kvs => obtain ⟨_, _, _, _, o, _, _, e, _⟩ := x; exact Heap.lt_size e
  | dT kvs => obtain ⟨_, _, _, _, o, _, _, e, _⟩ := x; exact Heap.lt_size e
  | set S n => obtain ⟨o, _, _, _, e, _⟩ := x; exact Heap.lt_size e
  | ins C dx fs => obtain ⟨_, _, _, e, _⟩ := x; exact Heap.lt_size e
  | own y => obtain ⟨_, e⟩ := x; exact Heap.lt_size e
  | xd fs => obtain ⟨_, ⟨_, _, _, e, _⟩, _⟩ := x; exact Heap.lt_size e
  | rng lo hi => obtain ⟨_, _, _, e⟩ := x; exact Heap.lt_size e
  | frz ob u => obtain ⟨e, _⟩ := x; exact Heap.lt_size e
  | tbl ps => exact Heap.lt_size (show h.get? a = some _ from x)
  | met f y => exact Heap.lt_size (show h.get? a = some _ from x)
  | ext φ => obtain ⟨_, ⟨_, e⟩, _⟩ := x; exact Heap.lt_size e
theorem Paired.mapP {α β : Type} {F G : α → β → Prop} : ∀ {l₁ : List α} {l₂ : List β}, Paired F l₁ l₂ → (∀ a b, F a b → G a b) → Paired G l₁ l₂
  | _, _, .nil, _ => .nil
  | _, _, .cons r t, f => .cons (f _ _ r) (Paired.mapP t f)
/-- what an object's description leans on: its own object, its own dict, the tuples -/
theorem ObjOk.stay (x : ObjOk P w H h a o) (k : ∀ b u, (b = a ∨ H b = some (.own a)) → h.get? b = some u → h'.get? b = some u)
    (ho : ∀ b, H b = some (.own a) → H' b = some (.own a)) (ht : ∀ b xs, H b = some (.tup xs) → H' b = some (.tup xs)) : ObjOk P w H' h' a o := by
  induction o with
  | lst xs => obtain ⟨z, its, n, r, e⟩ := x; exact ⟨z, its, n, r, k _ _ (.inl rfl) e⟩
  | tup xs => obtain ⟨z, its, r, ob, e, c⟩ := x; exact ⟨z, its, r, ob, k _ _ (.inl rfl) e, c⟩
  | dK kvs => obtain ⟨z, y, vs, r, ob, es, ep, e, c⟩ := x; exact ⟨z, y, vs, r, ob, es, ep, k _ _ (.inl rfl) e, c⟩
  | dT kvs =>
    obtain ⟨z, y, xs, r, ob, es, ep, e, c⟩ := x
    exact ⟨z, y, xs, Paired.mapP r fun p q z => ⟨z.1, ht _ _ z.2.1, z.2.2⟩, ob, es, ep, k _ _ (.inl rfl) e, c⟩
  | set S n => obtain ⟨ob, es, ep, t, e, c⟩ := x; exact ⟨ob, es, ep, t, k _ _ (.inl rfl) e, c⟩
  | ins C dx fs =>
    obtain ⟨d, z, ne, e, mA, ⟨od, es, ep, e2, c⟩, r⟩ := x
    exact ⟨ho _ d, z, ne, k _ _ (.inl rfl) e, mA, ⟨od, es, ep, k _ _ (.inr d) e2, c⟩, r⟩
  | own y => obtain ⟨ob, e⟩ := x; exact ⟨ob, k _ _ (.inl rfl) e⟩
  | xd fs => obtain ⟨mA, ⟨od, es, ep, e, c⟩, r⟩ := x; exact ⟨mA, ⟨od, es, ep, k _ _ (.inl rfl) e, c⟩, r⟩
  | rng lo hi => obtain ⟨t, u, v, e⟩ := x; exact ⟨t, u, v, k _ _ (.inl rfl) e⟩
  | frz ob u ih => obtain ⟨e, q⟩ := x; exact ⟨k _ _ (.inl rfl) e, ih q⟩
  | tbl ps =>
    have e : h.get? a = some { cls := .none, data := .fields ps } := x
    show h'.get? a = some { cls := .none, data := .fields ps }
    exact k a _ (.inl rfl) e
  | met f y =>
    have e : h.get? a = some (PySem.W.methodObj (.ref f) (.ref y)) := x
    show h'.get? a = some (PySem.W.methodObj (.ref f) (.ref y))
    exact k a _ (.inl rfl) e
  | ext φ => obtain ⟨p, ⟨o, e⟩, st⟩ := x; exact ⟨st _ _ p fun o q => k _ _ (.inl rfl) q, ⟨o, k _ _ (.inl rfl) e⟩, st⟩
theorem HOk.lt (x : HOk P w H h) (e : H a = some o) : a < h.objs.size := (x a o e).lt
theorem HOk.fresh (x : HOk P w H h) (e : h.objs.size ≤ a) : H a = none := by
  cases q : H a with
  | none => rfl
  | some u => exact absurd (Nat.lt_of_lt_of_le (x.lt q) e) (Nat.lt_irrefl _)
/-- every object of the heap is kept -/
theorem HOk.kept (x : HOk P w H h) (k : ∀ b u, h.get? b = some u → h'.get? b = some u) : HOk P w H h' := fun a o e =>
  (x a o e).stay (fun b u _ q => k b u q) (fun _ q => q) fun _ _ q => q
/-- a new object is laid and tracked -/
theorem HOk.laid (x : HOk P w H h) (k : ∀ b u, h.get? b = some u → h'.get? b = some u) (hp : h.objs.size ≤ a) (new : ObjOk P w (upd H a o) h' a o) : HOk P w (upd H a o) h' := fun b u e => by
  have hn := x.fresh hp
  by_cases hb : b = a
  · subst hb; rw [upd_same] at e; cases e; exact new
  · rw [upd_ne hb] at e
    exact (x b u e).stay (fun c v _ q => k c v q) (fun c q => by rw [upd_ne (ne_of_none q hn)]; exact q) fun c xs q => by rw [upd_ne (ne_of_none q hn)]; exact q
end

/-- what may be read as u: it is u, or a known u -/
def Rd (H : Hp) (a : Addr) (u : HO) : Prop := H a = some u ∨ ∃ o, H a = some (.frz o u)
theorem Rd.of {H : Hp} {a : Addr} {u : HO} (h : H a = some u) : Rd H a u := .inl h
theorem Rd.ok {P : Program} {w : World} {H : Hp} {h : Heap} {a : Addr} {u : HO} (r : Rd H a u) (x : HOk P w H h) : ObjOk P w H h a u := by
  rcases r with r | ⟨o, r⟩
  · exact x a u r
  · obtain ⟨_, q⟩ := x a _ r
    exact q
/-- what may be written -/
def Mut : Option HO → Prop
  | some (.lst _) => True
  | some (.dK _) => True
  | some (.dT _) => True
  | some (.set _ _) => True
  | some (.ins _ _ _) => True
  | some (.ext _) => True
  | _ => False
section
variable {P : Program} {w : World} {H : Hp} {h h' : Heap} {x e : Addr} {o' : HO}
/-- the object at e is changed: x itself, or the dict of the instance x -/
theorem HOk.write (ok : HOk P w H h) (mu : Mut (H x)) (he : e = x ∨ H e = some (.own x)) (k : ∀ b u, b ≠ e → h.get? b = some u → h'.get? b = some u) (heo : ∃ u, h'.get? e = some u)
    (new : ObjOk P w (upd H x o') h' x o') : HOk P w (upd H x o') h' := fun b u q => by
  have nown : ∀ c y, H c = some (.own y) → c ≠ x := fun c y r z => by subst z; rw [r] at mu; exact mu
  have ntup : ∀ c xs, H c = some (.tup xs) → c ≠ x := fun c xs r z => by subst z; rw [r] at mu; exact mu
  by_cases hb : b = x
  · subst hb; rw [upd_same] at q; cases q; exact new
  · rw [upd_ne hb] at q
    by_cases hbe : b = e
    · have q' : H b = some (.own x) := by
        rcases he with z | z
        · exact absurd (hbe.trans z) hb
        · rw [hbe]; exact z
      rw [q] at q'; cases q'
      obtain ⟨v, hv⟩ := heo
      exact ⟨v, by rw [hbe]; exact hv⟩
    · refine (ok b u q).stay (fun c v hc r => k c v ?_ r) (fun c r => by rw [upd_ne (nown c b r)]; exact r) fun c xs r => by rw [upd_ne (ntup c xs r)]; exact r
      rcases hc with rfl | hc
      · exact hbe
      · rintro rfl
        rcases he with z | z
        · exact nown c b hc z
        · rw [hc] at z; cases z; exact hb rfl
end

/-! ### kept unless tracked; of the frames at fs (the callers') the slots may change (an exception that passes writes there); of the records at ex (iterators) nothing is said -/
structure Un (fs ex : List Addr) (H H' : Hp) (h h' : Heap) : Prop where
  keep : ∀ b o, h.get? b = some o → H b = none → b ∉ fs → b ∉ ex → h'.get? b = some o
  slot : ∀ b o, h.get? b = some o → H b = none → b ∈ fs → b ∉ ex → ∃ sl, h'.get? b = some { o with slots := sl }
  free : ∀ b o, h.get? b = some o → H b = none → b ∉ ex → H' b = none
  there : ∀ b o, h.get? b = some o → b ∉ ex → ∃ o', h'.get? b = some o'
  tups : ∀ b xs, H b = some (.tup xs) → H' b = some (.tup xs)
  frzs : ∀ b o u, H b = some (.frz o u) → H' b = some (.frz o u)
  tbls : ∀ b ps, H b = some (.tbl ps) → ∃ more, H' b = some (.tbl (ps ++ more))
section
variable {fs fs' ex ex' : List Addr} {H H1 H2 : Hp} {h h1 h2 h' : Heap} {a x e : Addr} {o : HO}
theorem Un.any (u : Un fs ex H H1 h h1) {b : Addr} {ob : Obj} (q : h.get? b = some ob) (n : H b = none) (hx : b ∉ ex) : ∃ sl, h1.get? b = some { ob with slots := sl } := by
  by_cases hb : b ∈ fs
  · exact u.slot b ob q n hb hx
  · exact ⟨ob.slots, u.keep b ob q n hb hx⟩
theorem Un.trans (a : Un fs ex H H1 h h1) (b : Un fs ex H1 H2 h1 h2) : Un fs ex H H2 h h2 where
  keep := fun c ob q n hc hx => b.keep c ob (a.keep c ob q n hc hx) (a.free c ob q n hx) hc hx
  slot := fun c ob q n hc hx => by
    obtain ⟨sl, e1⟩ := a.slot c ob q n hc hx
    obtain ⟨sl', e2⟩ := b.slot c _ e1 (a.free c ob q n hx) hc hx
    exact ⟨sl', e2⟩
  free := fun c ob q n hx => by
    obtain ⟨o', e1⟩ := a.there c ob q hx
    exact b.free c o' e1 (a.free c ob q n hx) hx
  there := fun c ob q hx => by
    obtain ⟨o', e1⟩ := a.there c ob q hx
    exact b.there c o' e1 hx
  tups := fun c xs q => b.tups c xs (a.tups c xs q)
  frzs := fun c ob xs q => b.frzs c ob xs (a.frzs c ob xs q)
  tbls := fun c ps q => by
    obtain ⟨m1, e1⟩ := a.tbls c ps q
    obtain ⟨m2, e2⟩ := b.tbls c _ e1
    exact ⟨m1 ++ m2, by rw [e2, Array.append_assoc]⟩
theorem Un.kept (k : ∀ b u, h.get? b = some u → h'.get? b = some u) : Un fs ex H H h h' :=
  ⟨fun b ob q _ _ _ => k b ob q, fun b ob q _ _ _ => ⟨ob.slots, k b ob q⟩, fun _ _ _ n _ => n, fun b ob q _ => ⟨ob, k b ob q⟩, fun _ _ q => q, fun _ _ _ q => q, fun _ ps q => ⟨#[], by rw [q]; simp⟩⟩
theorem Un.refl : Un fs ex H H h h := Un.kept fun _ _ q => q
theorem Un.laid (k : ∀ b u, h.get? b = some u → h'.get? b = some u) (hp : h.objs.size ≤ a) (hn : H a = none) : Un fs ex H (upd H a o) h h' where
  keep := fun b u q _ _ _ => k b u q
  slot := fun b u q _ _ _ => ⟨u.slots, k b u q⟩
  free := fun b u q n _ => by rw [upd_ne (Nat.ne_of_lt (Nat.lt_of_lt_of_le (Heap.lt_size q) hp))]; exact n
  there := fun b u q _ => ⟨u, k b u q⟩
  tups := fun b xs q => by rw [upd_ne (ne_of_none q hn)]; exact q
  frzs := fun b u xs q => by rw [upd_ne (ne_of_none q hn)]; exact q
  tbls := fun b ps q => ⟨#[], by rw [upd_ne (ne_of_none q hn), q]; simp⟩
theorem Un.write (mu : Mut (H x)) (he : e = x ∨ H e = some (.own x)) (k : ∀ b u, b ≠ e → h.get? b = some u → h'.get? b = some u) (heo : ∃ u, h'.get? e = some u) : Un fs ex H (upd H x o) h h' := by
  have hx : ∀ b, H b = none → b ≠ x := fun b n z => by subst z; rw [n] at mu; exact mu
  have hb : ∀ b, H b = none → b ≠ e := fun b n z => by
    subst z
    rcases he with r | r
    · exact hx b n r
    · rw [n] at r; cases r
  have hm : ∀ b u, H b = some u → ¬ Mut (some u) → b ≠ x := fun b u q nm z => by subst z; rw [q] at mu; exact nm mu
  refine ⟨fun b u q n _ _ => k b u (hb b n) q, fun b u q n _ _ => ⟨u.slots, k b u (hb b n) q⟩, fun b u q n _ => by rw [upd_ne (hx b n)]; exact n, fun b u q _ => ?_,
    fun b xs q => by rw [upd_ne (hm b _ q fun z => z)]; exact q, fun b u xs q => by rw [upd_ne (hm b _ q fun z => z)]; exact q, fun b ps q => ⟨#[], by rw [upd_ne (hm b _ q fun z => z), q]; simp⟩⟩
  by_cases hbe : b = e
  · subst hbe; exact heo
  · exact ⟨u, k b u hbe q⟩
theorem Un.mono (u : Un fs ex H H1 h h1) (hs : ∀ b ∈ fs, b ∈ fs') (hx : ∀ b ∈ ex, b ∈ ex') : Un fs' ex' H H1 h h1 :=
  ⟨fun b ob q n hb he => u.keep b ob q n (fun z => hb (hs b z)) fun z => he (hx b z), fun _ _ q n _ he => u.any q n fun z => he (hx _ z), fun b ob q n he => u.free b ob q n fun z => he (hx b z), fun b ob q he => u.there b ob q fun z => he (hx b z), u.tups, u.frzs, u.tbls⟩
end

/-! ### the heap without what is tracked -/
def trk (h : Heap) (H : Hp) : List Addr := (List.range h.objs.size).filter fun a => (H a).isSome
def hidT (h : Heap) (H : Hp) : Heap := PySem.W.hideAll h (trk h H)
theorem hidT_size (h : Heap) (H : Hp) : (hidT h H).objs.size = h.objs.size := PySem.W.hideAll_size _ _
theorem hidT_get {h : Heap} {H : Hp} {b : Addr} {o : Obj} (e : h.get? b = some o) (n : H b = none) : (hidT h H).get? b = some o :=
  PySem.W.hideAll_get _ e fun hm => by
    have q : (H b).isSome = true := (List.mem_filter.mp hm).2
    rw [n] at q; simp at q
theorem of_hidT {h : Heap} {H : Hp} {b : Addr} {o : Obj} (e : (hidT h H).get? b = some o) : h.get? b = some o ∧ H b = none := by
  have e' : h.get? b = some o := PySem.W.of_hideAll (trk h H) e
  refine ⟨e', ?_⟩
  cases q : H b with
  | none => rfl
  | some x =>
    have hm : b ∈ trk h H := List.mem_filter.mpr ⟨List.mem_range.mpr (Heap.lt_size e'), by simp [q]⟩
    have z : (hidT h H).get? b = none := PySem.W.hideAll_none (trk h H) hm
    rw [z] at e; cases e

/-! ### OpenK's ledger, filled with every new object but one -/
def allNews (g h : Heap) (L : Addr) : List (Addr × Obj) := (List.range h.objs.size).filterMap fun a => if a = L ∨ (g.get? a).isSome = true then none else (h.get? a).map fun o => (a, o)
def rest (g h : Heap) (L d : Addr) : List (Addr × Obj) := (allNews g h L).filter fun p => decide (p.1 ≠ d)
end L2

namespace L2
open PySem PySem.Spec PyProof.Rows

/-- the module's facts, over the base: the heap at the law's entry without what is tracked there -/
structure Mod (K : PySem.W.Frag) (mg : Str → Option Value) (base : Heap) : Prop where
  kin : K.In base
  glob : base.Ns mainGlobals mg
  blt : ∃ mb, base.Ns builtinsNs mb ∧ ∀ x : Str, x ≠ "__name__" → mb x = bootBuiltins x
  nolimit : base.NoLimit

/-- the context: a def's body (or a comprehension's block) running. base: fixed through the whole law; s₀, H₀: the entry; outer: the frames whose slots others may change (a def's callers); stack: all frames that run;
   ex: iterators that were made ahead of the entry and are walked here (a comprehension's); fn: the names whose cells were made at the entry (a def: all; a comprehension's block: its own); calm: not within an except suite; pn: pins that every state bears; xe: what is wanted of an exception that leaves the code -/
structure Cx where
  prog : Program
  w : World
  K : PySem.W.Frag
  mg : Str → Option Value
  base : Heap
  A : Around
  N : List Str
  s_0 : Shared
  H_0 : Hp
  env : Env
  outer : List Env
  stack : List Env
  ex : List Addr
  fn : Str → Bool
  calm : Bool
  pn : List (Addr × Obj)
  xe : Value → Shared → Prop
/-- the callers' frames -/
def frs (l : List Env) : List Addr := l.filterMap (·.frame)
abbrev Cx.fs (X : Cx) : List Addr := frs X.outer

def Vis (sc : Scope) (x : Str) : Prop := sc.names.lookup x = some .local ∨ sc.names.lookup x = some .cell ∨ sc.names.lookup x = some .free
def Loc (sc : Scope) (x : Str) : Prop := sc.names.lookup x = some .local ∨ sc.names.lookup x = some .cell
def Look (env : Env) (h : Heap) (m : Str → Option Value) (x : Str) (u : Value) : Prop :=
  (env.kindOf x = some .local ∧ m x = some u) ∨ ((env.kindOf x = some .cell ∨ env.kindOf x = some .free) ∧ ∃ c, env.cells.lookup x = some c ∧ h.IsCell c (some u))

structure Cx.Ok (X : Cx) : Prop where
  mod : Mod X.K X.mg X.base
  kind : X.env.scope.kind = .function
  glob : X.env.globals = mainGlobals
  blt : X.env.builtins = builtinsNs
  above : X.s_0.heap.objs.size ≤ X.env.locals
  inj : ∀ x y c, X.env.cells.lookup x = some c → X.env.cells.lookup y = some c → x = y
  has : ∀ x, (X.env.kindOf x = some .cell ∨ X.env.kindOf x = some .free) → ∃ c, X.env.cells.lookup x = some c
  cab : ∀ x c, X.fn x = true → X.env.cells.lookup x = some c → X.s_0.heap.objs.size ≤ c
  hd : X.calm = true → X.A.handled = none
  frames : X.A.frames = some X.stack
  stk : X.stack = X.outer ∨ (X.stack = X.env :: X.outer ∧ X.env.frame = some X.env.locals)
  exf : ∀ b ∈ X.ex, b ≠ X.env.locals ∧ ∀ x c, X.env.cells.lookup x = some c → c ≠ b
  bs : ∀ b o, X.base.get? b = some o → X.s_0.heap.get? b = some o ∧ X.H_0 b = none
  bsz : X.base.objs.size ≤ X.s_0.heap.objs.size
  noex : ∀ b o, X.base.get? b = some o → b ∉ X.ex
  exfs : ∀ b ∈ X.ex, b ∉ X.fs
  funs : X.s_0.heap.FunFrames X.base X.outer
  frf : ∀ b ∈ X.fs, X.H_0 b = none

structure Inv (X : Cx) (pins : List (Addr × Obj)) (σ : List (Option V)) (H : Hp) (s : Shared) : Prop where
  ok : X.Ok
  os : s.os = X.s_0.os
  bare : AllBare s.gens
  base : Un X.fs X.ex X.H_0 H X.s_0.heap s.heap
  loc : ∃ m, s.heap.Ns X.env.locals m ∧ ∀ (i : Nat) (x : Str) (v : V), X.N[i]? = some x → σ[i]? = some (some v) → Vis X.env.scope x → ∃ u, RelV v u ∧ Look X.env s.heap m x u
  cell : ∀ x c, X.env.cells.lookup x = some c → ∃ v, s.heap.IsCell c v
  free : H X.env.locals = none
  freeC : ∀ x c, X.env.cells.lookup x = some c → H c = none
  pin : ∀ p ∈ X.pn ++ pins, s.heap.get? p.1 = some p.2 ∧ H p.1 = none ∧ p.1 ≠ X.env.locals ∧ p.1 ∉ X.fs ∧ ∀ v, p.2.data ≠ .cell v
  hok : HOk X.prog X.w H s.heap
  len : σ.length = X.N.length

section
variable {X : Cx} {pins : List (Addr × Obj)} {σ : List (Option V)} {H H' : Hp} {s : Shared} {h' : Heap}

theorem Cx.Ok.nofr (ok : X.Ok) {b : Addr} {o : Obj} (e : X.base.get? b = some o) : b ∉ X.fs := fun hb => by
  have := (ok.funs.mem hb).1
  rw [e] at this; cases this
theorem Inv.bs (I : Inv X pins σ H s) : ∀ b o, X.base.get? b = some o → s.heap.get? b = some o ∧ H b = none := fun b o e =>
  ⟨I.base.keep b o (I.ok.bs b o e).1 (I.ok.bs b o e).2 (I.ok.nofr e) (I.ok.noex b o e), I.base.free b o (I.ok.bs b o e).1 (I.ok.bs b o e).2 (I.ok.noex b o e)⟩
theorem Inv.bk (I : Inv X pins σ H s) : ∀ b o, X.base.get? b = some o → s.heap.get? b = some o := fun b o e => (I.bs b o e).1
theorem Inv.mod (I : Inv X pins σ H s) : Mod X.K X.mg X.base := I.ok.mod
theorem Inv.kIn (I : Inv X pins σ H s) : X.K.In s.heap := I.ok.mod.kin.keeps I.bk
theorem Inv.nolimit (I : Inv X pins σ H s) : s.heap.NoLimit := I.ok.mod.nolimit.keeps I.bk
/-- the frame over the base: for OpenK's rules (K.In X.base is I.mod.kin) -/
theorem Inv.fr (I : Inv X pins σ H s) : ∃ m, Fr X.base X.env.locals s.heap m :=
  let ⟨m, hn, _⟩ := I.loc
  ⟨m, hn, I.bk, Nat.le_trans I.ok.bsz I.ok.above⟩
theorem Inv.lt (I : Inv X pins σ H s) : X.env.locals < s.heap.objs.size := let ⟨_, hn, _⟩ := I.loc; hn.lt
theorem Inv.sz (I : Inv X pins σ H s) : X.s_0.heap.objs.size ≤ s.heap.objs.size := Nat.le_trans I.ok.above (Nat.le_of_lt I.lt)
theorem Inv.nofs (I : Inv X pins σ H s) {a : Addr} (h : s.heap.objs.size ≤ a) : a ∉ X.fs := fun hb => by
  obtain ⟨_, o, ho, _⟩ := I.ok.funs.mem hb
  exact absurd (Nat.lt_of_lt_of_le (Heap.lt_size ho) (Nat.le_trans I.sz h)) (Nat.lt_irrefl _)
theorem Inv.cne (I : Inv X pins σ H s) : ∀ x c, X.env.cells.lookup x = some c → c ≠ X.env.locals := fun x c e z => by
  obtain ⟨v, o, ho, hd⟩ := I.cell x c e
  obtain ⟨m, ⟨o', es, ep, ho', hd', _⟩, _⟩ := I.loc
  rw [z, ho'] at ho; cases ho; rw [hd'] at hd; cases hd
theorem Inv.funs (I : Inv X pins σ H s) : s.heap.FunFrames X.base X.outer := by
  have all : ∀ (l : List Env), (∀ b ∈ frs l, b ∈ X.fs) → X.s_0.heap.FunFrames X.base l → s.heap.FunFrames X.base l := by
    intro l
    induction l with
    | nil => intro _ _; trivial
    | cons env r ih =>
      intro hs hl
      obtain ⟨hk, ⟨L, o, hf, hn, ho, hd⟩, hr⟩ := hl
      have hL : L ∈ X.fs := hs L (by unfold frs; rw [List.filterMap_cons, hf]; exact List.mem_cons_self)
      obtain ⟨sl, e⟩ := I.base.slot L o ho (I.ok.frf L hL) hL fun z => I.ok.exfs L z hL
      exact ⟨hk, ⟨L, _, hf, hn, e, hd⟩, ih (fun b hb => hs b (by unfold frs; rw [List.filterMap_cons, hf]; exact List.mem_cons_of_mem _ hb)) hr⟩
  exact all X.outer (fun _ hb => hb) I.ok.funs

/-- the frames that run, for a call -/
theorem Inv.stack (I : Inv X pins σ H s) : s.heap.FunFrames X.base X.stack := by
  rcases I.ok.stk with e | ⟨e, hf⟩
  · rw [e]; exact I.funs
  · rw [e]
    obtain ⟨m, hn, _⟩ := I.loc
    refine .cons (by rw [I.ok.kind]; decide) hf hn ?_ I.funs
    exact Heap.get?_none_of_le (Nat.le_trans I.ok.bsz I.ok.above)
theorem Inv.stkSub (I : Inv X pins σ H s) : ∀ b ∈ frs X.stack, b ∈ X.env.locals :: X.fs := fun b hb => by
  rcases I.ok.stk with e | ⟨e, hf⟩
  · rw [e] at hb; exact List.mem_cons_of_mem _ hb
  · rw [e] at hb
    unfold frs at hb
    rw [List.filterMap_cons, hf] at hb
    exact hb
theorem Inv.stkFree (I : Inv X pins σ H s) : ∀ b ∈ frs X.stack, H b = none := fun b hb => by
  rcases List.mem_cons.mp (I.stkSub b hb) with e | hb
  · rw [e]; exact I.free
  · obtain ⟨_, o, ho, _⟩ := I.ok.funs.mem hb
    exact I.base.free b o ho (I.ok.frf b hb) fun z => I.ok.exfs b z hb

/-- THE STEP: the untracked objects but the frame and the records at ch are kept (the callers' frames up to slots), the frame's map is kept, the new abstract heap is held -/
theorem Inv.step {g' : Array GenState} {t' : Nat} {d' : Drawn} {ch : List Addr} (I : Inv X pins σ H s)
    (hch : ∀ b ∈ ch, (b ∈ X.ex ∨ X.s_0.heap.objs.size ≤ b) ∧ b ≠ X.env.locals ∧ (∀ x c, X.env.cells.lookup x = some c → c ≠ b) ∧ ∀ p ∈ X.pn ++ pins, p.1 ≠ b)
    (keep : ∀ b o, b ≠ X.env.locals → b ∉ X.fs → b ∉ ch → s.heap.get? b = some o → H b = none → h'.get? b = some o)
    (slot : ∀ b o, b ≠ X.env.locals → b ∈ X.fs → b ∉ ch → s.heap.get? b = some o → H b = none → ∃ sl, h'.get? b = some { o with slots := sl }) (free : ∀ b o, b ∉ ch → s.heap.get? b = some o → H b = none → H' b = none)
    (there : ∀ b o, b ∉ ch → s.heap.get? b = some o → ∃ o', h'.get? b = some o')
    (tups : ∀ b xs, H b = some (.tup xs) → H' b = some (.tup xs)) (frzs : ∀ b o u, H b = some (.frz o u) → H' b = some (.frz o u)) (tbls : ∀ b ps, H b = some (.tbl ps) → ∃ more, H' b = some (.tbl (ps ++ more)))
    (ns : ∀ m, s.heap.Ns X.env.locals m → h'.Ns X.env.locals m) (hok : HOk X.prog X.w H' h') (hg : AllBare g') :
    Inv X pins σ H' { s with heap := h', gens := g', drawn := d', toks := t' } := by
  have neL : ∀ b o, X.s_0.heap.get? b = some o → b ≠ X.env.locals := fun b o e => Nat.ne_of_lt (Nat.lt_of_lt_of_le (Heap.lt_size e) I.ok.above)
  have neC : ∀ b o, X.s_0.heap.get? b = some o → b ∉ X.ex → b ∉ ch := fun b o e hx hb => by
    rcases (hch b hb).1 with z | z
    · exact hx z
    · exact absurd (Nat.lt_of_lt_of_le (Heap.lt_size e) z) (Nat.lt_irrefl _)
  have cellK : ∀ x c, X.env.cells.lookup x = some c → ∀ v, s.heap.IsCell c v → h'.IsCell c v := fun x c e v ⟨o, ho, hd⟩ => by
    have nch : c ∉ ch := fun z => (hch c z).2.2.1 x c e rfl
    by_cases hc : c ∈ X.fs
    · obtain ⟨sl, q⟩ := slot c o (I.cne x c e) hc nch ho (I.freeC x c e)
      exact ⟨_, q, hd⟩
    · exact ⟨o, keep c o (I.cne x c e) hc nch ho (I.freeC x c e), hd⟩
  refine ⟨I.ok, I.os, hg, ⟨fun b o e n hb hx => ?_, fun b o e n hb hx => ?_, fun b o e n hx => ?_, fun b o e hx => ?_, fun b xs e => tups b xs (I.base.tups b xs e), fun b o xs e => frzs b o xs (I.base.frzs b o xs e), fun b ps e => ?_⟩, ?_, fun x c e => ?_, ?_, fun x c e => ?_, fun p hp => ?_, hok, I.len⟩
  · exact keep b o (neL b o e) hb (neC b o e hx) (I.base.keep b o e n hb hx) (I.base.free b o e n hx)
  · obtain ⟨sl, e1⟩ := I.base.slot b o e n hb hx
    obtain ⟨sl', e2⟩ := slot b _ (neL b o e) hb (neC b o e hx) e1 (I.base.free b o e n hx)
    exact ⟨sl', e2⟩
  · obtain ⟨o', e1⟩ := I.base.there b o e hx
    exact free b o' (neC b o e hx) e1 (I.base.free b o e n hx)
  · obtain ⟨o', e1⟩ := I.base.there b o e hx
    exact there b o' (neC b o e hx) e1
  · obtain ⟨m1, e1⟩ := I.base.tbls b ps e
    obtain ⟨m2, e2⟩ := tbls b _ e1
    exact ⟨m1 ++ m2, by rw [e2, Array.append_assoc]⟩
  · obtain ⟨m, hn, hl⟩ := I.loc
    refine ⟨m, ns m hn, fun i x v e1 e2 e3 => ?_⟩
    obtain ⟨u, r, l⟩ := hl i x v e1 e2 e3
    refine ⟨u, r, ?_⟩
    rcases l with l | ⟨k, c, e, z⟩
    · exact .inl l
    · exact .inr ⟨k, c, e, cellK x c e _ z⟩
  · obtain ⟨v, z⟩ := I.cell x c e
    exact ⟨v, cellK x c e v z⟩
  · obtain ⟨m, ⟨o, _, _, ho, _⟩, _⟩ := I.loc
    exact free _ o (fun z => (hch _ z).2.1 rfl) ho I.free
  · obtain ⟨v, o, ho, hd⟩ := I.cell x c e
    exact free c o (fun z => (hch c z).2.2.1 x c e rfl) ho (I.freeC x c e)
  · obtain ⟨e, n, ne, nf, d⟩ := I.pin p hp
    have nch : p.1 ∉ ch := fun z => (hch p.1 z).2.2.2 p hp rfl
    exact ⟨keep p.1 p.2 ne nf nch e n, free p.1 p.2 nch e n, ne, nf, d⟩
/-- .. where the frame's own object is kept too -/
theorem Inv.un {t' : Nat} (I : Inv X pins σ H s) (u : Un X.fs [] H H' s.heap h') (hok : HOk X.prog X.w H' h') : Inv X pins σ H' { s with heap := h', toks := t' } := by
  obtain ⟨m, ⟨o, es, ep, ho, r⟩, _⟩ := id I.loc
  obtain ⟨sl, hL⟩ := u.any ho I.free (by simp)
  exact I.step (g' := s.gens) (d' := s.drawn) (ch := []) (fun _ z => nomatch z) (fun b o _ hb _ e n => u.keep b o e n hb (by simp)) (fun b o _ hb _ e n => u.slot b o e n hb (by simp)) (fun b o _ e n => u.free b o e n (by simp)) (fun b o _ e => u.there b o e (by simp)) u.tups u.frzs u.tbls (fun m' hm => by
    obtain ⟨o', es', ep', ho', r'⟩ := hm
    rw [ho] at ho'; cases ho'
    exact ⟨_, es', ep', hL, r'⟩) hok I.bare
/-- behind a call (or a comprehension's block): the slots of this frame may have changed too, the records at ch may have turned -/
theorem Inv.call {g' : Array GenState} {t' : Nat} {d' : Drawn} {ch : List Addr} (I : Inv X pins σ H s) (u : Un (frs X.stack) ch H H' s.heap h') (hok : HOk X.prog X.w H' h') (hg : AllBare g')
    (hch : ∀ b ∈ ch, (b ∈ X.ex ∨ X.s_0.heap.objs.size ≤ b) ∧ b ≠ X.env.locals ∧ (∀ x c, X.env.cells.lookup x = some c → c ≠ b) ∧ ∀ p ∈ X.pn ++ pins, p.1 ≠ b) :
    Inv X pins σ H' { s with heap := h', gens := g', drawn := d', toks := t' } := by
  obtain ⟨m, ⟨o, es, ep, ho, r⟩, _⟩ := id I.loc
  obtain ⟨sl, hL⟩ := u.any ho I.free fun z => (hch _ z).2.1 rfl
  exact I.step (ch := ch) hch (fun b o hL hb hc e n => u.keep b o e n (fun z => (List.mem_cons.mp (I.stkSub b z)).elim hL hb) hc) (fun b o _ _ hc e n => u.any e n hc) (fun b o hc e n => u.free b o e n hc) (fun b o hc e => u.there b o e hc) u.tups u.frzs u.tbls (fun m' hm => by
    obtain ⟨o', es', ep', ho', r'⟩ := hm
    rw [ho] at ho'; cases ho'
    exact ⟨_, es', ep', hL, r'⟩) hok hg
/-- an untracked record of ours (an iterator) has turned -/
theorem Inv.turned {t' : Nat} {it : Addr} (I : Inv X pins σ H s) (k : ∀ b o, b ≠ it → s.heap.get? b = some o → h'.get? b = some o) (hn : H it = none) (hL : it ≠ X.env.locals)
    (h1 : it ∈ X.ex ∨ X.s_0.heap.objs.size ≤ it) (h2 : ∀ x c, X.env.cells.lookup x = some c → c ≠ it) (h3 : ∀ p ∈ X.pn ++ pins, p.1 ≠ it) : Inv X pins σ H { s with heap := h', toks := t' } := by
  have nit : ∀ b u, H b = some u → b ≠ it := fun b u e z => by rw [z, hn] at e; cases e
  refine I.step (g' := s.gens) (d' := s.drawn) (ch := [it]) (fun b hb => ?_) (fun b o _ _ hc e _ => k b o (fun z => hc (by simp [z])) e) (fun b o _ _ hc e _ => ⟨o.slots, k b o (fun z => hc (by simp [z])) e⟩) (fun _ _ _ _ n => n)
    (fun b o hc e => ⟨o, k b o (fun z => hc (by simp [z])) e⟩) (fun _ _ e => e) (fun _ _ _ e => e) (fun b ps e => ⟨#[], by rw [e]; simp⟩) (fun m hm => ?_) (fun b u e => ?_) I.bare
  · have e : b = it := by simpa using hb
    subst e
    exact ⟨h1, hL, h2, h3⟩
  · obtain ⟨o, es, ep, ho, r⟩ := hm
    exact ⟨o, es, ep, k _ o (Ne.symm hL) ho, r⟩
  · refine (I.hok b u e).stay (fun c v hc q => k c v ?_ q) (fun _ q => q) fun _ _ q => q
    rcases hc with z | z
    · rw [z]; exact nit b u e
    · exact nit c _ z
theorem Inv.tok (I : Inv X pins σ H s) (t : Nat) : Inv X pins σ H { s with toks := t } := I.un (h' := s.heap) (t' := t) Un.refl I.hok
/-- all objects kept -/
theorem Inv.kept {t' : Nat} (I : Inv X pins σ H s) (k : ∀ b u, s.heap.get? b = some u → h'.get? b = some u) : Inv X pins σ H { s with heap := h', toks := t' } := I.un (Un.kept k) (I.hok.kept k)
/-- a new object laid and tracked -/
theorem Inv.laid {a : Addr} {o : HO} {t' : Nat} (I : Inv X pins σ H s) (k : ∀ b u, s.heap.get? b = some u → h'.get? b = some u) (hp : s.heap.objs.size ≤ a) (new : ObjOk X.prog X.w (upd H a o) h' a o) :
    Inv X pins σ (upd H a o) { s with heap := h', toks := t' } := I.un (Un.laid k hp (I.hok.fresh hp)) (I.hok.laid k hp new)
/-- an object written -/
theorem Inv.write {x e : Addr} {o : HO} {t' : Nat} (I : Inv X pins σ H s) (mu : Mut (H x)) (he : e = x ∨ H e = some (.own x)) (k : ∀ b u, b ≠ e → s.heap.get? b = some u → h'.get? b = some u) (heo : ∃ u, h'.get? e = some u)
    (new : ObjOk X.prog X.w (upd H x o) h' x o) : Inv X pins σ (upd H x o) { s with heap := h', toks := t' } := I.un (Un.write mu he k heo) (I.hok.write mu he k heo new)
/-- forgetting slots, pins -/
theorem Inv.weak {σ' : List (Option V)} (I : Inv X pins σ H s) (hl : σ'.length = σ.length) (w : ∀ (i : Nat) v, σ'[i]? = some (some v) → σ[i]? = some (some v)) : Inv X pins σ' H s :=
  ⟨I.ok, I.os, I.bare, I.base, let ⟨m, hn, hl'⟩ := I.loc; ⟨m, hn, fun i x v e1 e2 e3 => hl' i x v e1 (w i v e2) e3⟩, I.cell, I.free, I.freeC, I.pin, I.hok, hl.trans I.len⟩
theorem Inv.pins_of {pins' : List (Addr × Obj)} (I : Inv X pins σ H s) (h : ∀ p ∈ pins', s.heap.get? p.1 = some p.2 ∧ H p.1 = none ∧ p.1 ≠ X.env.locals ∧ p.1 ∉ X.fs ∧ ∀ v, p.2.data ≠ .cell v) : Inv X pins' σ H s :=
  ⟨I.ok, I.os, I.bare, I.base, I.loc, I.cell, I.free, I.freeC, fun p hp => (List.mem_append.mp hp).elim (fun z => I.pin p (List.mem_append_left _ z)) (h p), I.hok, I.len⟩

theorem nodup_ix {N : List Str} (hN : N.Nodup) {i j : Nat} {x : Str} (a : N[i]? = some x) (b : N[j]? = some x) : i = j := by
  obtain ⟨h1, e1⟩ := List.getElem?_eq_some_iff.mp a
  obtain ⟨h2, e2⟩ := List.getElem?_eq_some_iff.mp b
  exact (List.getElem_inj hN).mp (e1.trans e2.symm)

/-- a name is stored; what changed -/
theorem store_ok2 {M : Model} {A : Around} {E : Value → Shared → Prop} {i : Nat} {x : Str} {v : V} {u : Value} {Q : Unit → Shared → Prop} (I : Inv X pins σ H s) (hN : X.N.Nodup) (hi : X.N[i]? = some x) (hx : Loc X.env.scope x) (r : RelV v u)
    (h : ∀ s', Inv X pins (σ.set i (some v)) H s' → (∃ a, Heap.SameBut a s.heap s'.heap ∧ (a = X.env.locals ∨ X.env.cells.lookup x = some a)) → Q () s') (hf : X.fn x = true ∨ X.env.scope.names.lookup x = some .local := by first | exact .inl rfl | exact .inr rfl | assumption) : wpAny M A (storeName X.env x u) Q E s := by
  obtain ⟨m, hn, hl⟩ := id I.loc
  have hcls : (X.env.scope.kind == .class || (X.env.scope.kind == .module && X.env.locals != X.env.globals)) = false := by rw [I.ok.kind]; rfl
  have hiσ : i < σ.length := by rw [I.len]; exact (List.getElem?_eq_some_iff.mp hi).1
  have cne := I.cne
  have tracked : ∀ {a : Addr} {h' : Heap}, (∃ o, s.heap.get? a = some o ∧ H a = none) → Heap.SameBut a s.heap h' → HOk X.prog X.w H h' := fun {a h'} ha hs b ob e => by
    obtain ⟨_, _, hfree⟩ := ha
    refine (I.hok b ob e).stay (fun c w' hc q => (hs.2 c ?_).trans q) (fun _ q => q) fun _ _ q => q
    rintro rfl
    rcases hc with rfl | hc
    · rw [hfree] at e; cases e
    · rw [hfree] at hc; cases hc
  rcases hx with hk | hk
  · refine wpAny_storeName_local hk hn (fun h' hn' hs => ?_) hcls
    obtain ⟨oL, _, _, hoL, _⟩ := id hn
    refine h _ ⟨I.ok, I.os, I.bare, ⟨fun b o e n hb hx => ?_, fun b o e n hb hx => ?_, I.base.free, fun b o e hx => ?_, I.base.tups, I.base.frzs, I.base.tbls⟩, ⟨_, hn', fun j y v' e1 e2 e3 => ?_⟩, fun y c e => ?_, I.free, I.freeC, fun p hp => ?_, tracked ⟨oL, hoL, I.free⟩ hs, by simpa using I.len⟩ ⟨_, hs, .inl rfl⟩
    · exact (hs.2 b (Nat.ne_of_lt (Nat.lt_of_lt_of_le (Heap.lt_size e) I.ok.above))).trans (I.base.keep b o e n hb hx)
    · obtain ⟨sl, e1⟩ := I.base.slot b o e n hb hx
      exact ⟨sl, (hs.2 b (Nat.ne_of_lt (Nat.lt_of_lt_of_le (Heap.lt_size e) I.ok.above))).trans e1⟩
    · obtain ⟨o', e1⟩ := I.base.there b o e hx
      exact ⟨o', (hs.2 b (Nat.ne_of_lt (Nat.lt_of_lt_of_le (Heap.lt_size e) I.ok.above))).trans e1⟩
    · by_cases hj : j = i
      · subst hj
        rw [hi] at e1; cases e1
        rw [List.getElem?_set_self hiσ] at e2
        cases e2
        exact ⟨u, r, .inl ⟨hk, by simp⟩⟩
      · rw [List.getElem?_set_ne (Ne.symm hj)] at e2
        obtain ⟨u', r', q⟩ := hl j y v' e1 e2 e3
        refine ⟨u', r', ?_⟩
        rcases q with ⟨k, e⟩ | ⟨k, c, e, z⟩
        · refine .inl ⟨k, ?_⟩
          have : y ≠ x := fun e => hj (nodup_ix hN e1 (e ▸ hi))
          simp [this, e]
        · exact .inr ⟨k, c, e, z.sameBut hs (cne y c e)⟩
    · obtain ⟨w', z⟩ := I.cell y c e
      exact ⟨w', z.sameBut hs (cne y c e)⟩
    · obtain ⟨e, n, ne, nf, d⟩ := I.pin p hp
      exact ⟨(hs.2 p.1 ne).trans e, n, ne, nf, d⟩
  · have hfn : X.fn x = true := by
      rcases hf with z | z
      · exact z
      · rw [z] at hk; cases hk
    obtain ⟨c, hc⟩ := I.ok.has x (.inl hk)
    obtain ⟨w', z⟩ := I.cell x c hc
    refine wpAny_storeName_cell I.ok.kind hk hc z (fun h' hc' hs => ?_)
    obtain ⟨oc, hoc, hocd⟩ := id z
    refine h { s with heap := h' } ⟨I.ok, I.os, I.bare, ⟨fun b o e n hb hx => ?_, fun b o e n hb hx => ?_, I.base.free, fun b o e hx => ?_, I.base.tups, I.base.frzs, I.base.tbls⟩, ⟨m, hn.sameBut hs (Ne.symm (cne x c hc)), fun j y v' e1 e2 e3 => ?_⟩, fun y c' e => ?_, I.free, I.freeC, fun p hp => ?_, tracked ⟨oc, hoc, I.freeC x c hc⟩ hs, by simpa using I.len⟩ ⟨c, hs, .inr hc⟩
    · exact (hs.2 b (Nat.ne_of_lt (Nat.lt_of_lt_of_le (Heap.lt_size e) (I.ok.cab x c hfn hc)))).trans (I.base.keep b o e n hb hx)
    · obtain ⟨sl, e1⟩ := I.base.slot b o e n hb hx
      exact ⟨sl, (hs.2 b (Nat.ne_of_lt (Nat.lt_of_lt_of_le (Heap.lt_size e) (I.ok.cab x c hfn hc)))).trans e1⟩
    · obtain ⟨o', e1⟩ := I.base.there b o e hx
      exact ⟨o', (hs.2 b (Nat.ne_of_lt (Nat.lt_of_lt_of_le (Heap.lt_size e) (I.ok.cab x c hfn hc)))).trans e1⟩
    · by_cases hj : j = i
      · subst hj
        rw [hi] at e1; cases e1
        rw [List.getElem?_set_self hiσ] at e2
        cases e2
        exact ⟨u, r, .inr ⟨.inl hk, c, hc, hc'⟩⟩
      · rw [List.getElem?_set_ne (Ne.symm hj)] at e2
        obtain ⟨u', r', q⟩ := hl j y v' e1 e2 e3
        refine ⟨u', r', ?_⟩
        rcases q with q | ⟨k, c', e, z'⟩
        · exact .inl q
        · refine .inr ⟨k, c', e, z'.sameBut hs ?_⟩
          rintro rfl
          exact hj (nodup_ix hN e1 (I.ok.inj _ _ _ e hc ▸ hi))
    · by_cases hcc : c' = c
      · subst hcc; exact ⟨_, hc'⟩
      · obtain ⟨w2, z2⟩ := I.cell y c' e
        exact ⟨w2, z2.sameBut hs hcc⟩
    · obtain ⟨e, n, ne, nf, d⟩ := I.pin p hp
      refine ⟨(hs.2 p.1 ?_).trans e, n, ne, nf, d⟩
      intro q
      rw [q, hoc] at e
      have q' : oc = p.2 := Option.some.inj e
      exact d w' (by rw [← q']; exact hocd)
theorem store_ok {M : Model} {A : Around} {E : Value → Shared → Prop} {i : Nat} {x : Str} {v : V} {u : Value} {Q : Unit → Shared → Prop} (I : Inv X pins σ H s) (hN : X.N.Nodup) (hi : X.N[i]? = some x) (hx : Loc X.env.scope x) (r : RelV v u)
    (h : ∀ s', Inv X pins (σ.set i (some v)) H s' → Q () s') (hf : X.fn x = true ∨ X.env.scope.names.lookup x = some .local := by first | exact .inl rfl | exact .inr rfl | assumption) : wpAny M A (storeName X.env x u) Q E s :=
  store_ok2 I hN hi hx r (fun s' I' _ => h s' I') hf
/-- behind a call or a block, the state as it is -/
theorem Inv.call' {s' : Shared} {ch : List Addr} (I : Inv X pins σ H s) (ho : s'.os = s.os) (u : Un (frs X.stack) ch H H' s.heap s'.heap) (hok : HOk X.prog X.w H' s'.heap) (hg : AllBare s'.gens)
    (hch : ∀ b ∈ ch, (b ∈ X.ex ∨ X.s_0.heap.objs.size ≤ b) ∧ b ≠ X.env.locals ∧ (∀ x c, X.env.cells.lookup x = some c → c ≠ b) ∧ ∀ p ∈ X.pn ++ pins, p.1 ≠ b) : Inv X pins σ H' s' := by
  obtain ⟨h', g', d', t', o'⟩ := s'
  have e : o' = s.os := ho
  subst e
  exact I.call (g' := g') (t' := t') (d' := d') u hok hg hch
end

/-! ### the judgements -/
/-- an exception: its class, its own dict's address (where it has one), the abstract heap behind it -/
abbrev XK := Value → Option Addr → Hp → Prop
abbrev St := List (Option V)
abbrev VK := V → Hp → Prop
/-- an expression's reading; a test's; an argument list's -/
abbrev TE := St → Hp → VK → Prop
abbrev TT := St → Hp → (Bool → Hp → Prop) → Prop
abbrev TA := St → Hp → (List V → Hp → Prop) → Prop
/-- what is wanted behind a statement -/
structure Ends where
  nx : St → Hp → Prop
  rt : VK
  bk : St → Hp → Prop := fun _ _ => False
  ct : St → Hp → Prop := fun _ _ => False
abbrev TS := Ends → St → Hp → Prop

def EP (X : Cx) (pins : List (Addr × Obj)) (σ : St) (Q : VK) (u : Value) (s' : Shared) : Prop := ∃ v H', Inv X pins σ H' s' ∧ RelV v u ∧ Q v H'
def TP (X : Cx) (pins : List (Addr × Obj)) (σ : St) (Q : Bool → Hp → Prop) (b : Bool) (s' : Shared) : Prop := ∃ H', Inv X pins σ H' s' ∧ Q b H'
def AP (X : Cx) (pins : List (Addr × Obj)) (σ : St) (Q : List V → Hp → Prop) (us : List Value) (s' : Shared) : Prop := ∃ vs H', Inv X pins σ H' s' ∧ Vals vs us ∧ Q vs H'
def SP (X : Cx) (pins : List (Addr × Obj)) (D : Ends) (f : Flow) (s' : Shared) : Prop :=
  match f with
  | .next => ∃ σ' H', Inv X pins σ' H' s' ∧ D.nx σ' H'
  | .brk => ∃ σ' H', Inv X pins σ' H' s' ∧ D.bk σ' H'
  | .cont => ∃ σ' H', Inv X pins σ' H' s' ∧ D.ct σ' H'
  | .ret u => ∃ v σ' H', Inv X pins σ' H' s' ∧ RelV v u ∧ D.rt v H'

def PE (X : Cx) (e : Expr) (t : TE) : Prop :=
  ∀ (pins : List (Addr × Obj)) (s : Shared) (σ : St) (H : Hp) (Q : VK), Inv X pins σ H s → t σ H Q → wpAny (model X.prog X.w) X.A (eval e X.env) (EP X pins σ Q) X.xe s
def PT (X : Cx) (e : Expr) (t : TT) : Prop :=
  ∀ (pins : List (Addr × Obj)) (s : Shared) (σ : St) (H : Hp) (Q : Bool → Hp → Prop), Inv X pins σ H s → t σ H Q → wpAny (model X.prog X.w) X.A (isTrue e X.env (eval e X.env)) (TP X pins σ Q) X.xe s
/-- a test whatever its 'whole' is (and, or) -/
def PW (X : Cx) (e : Expr) (t : TT) : Prop :=
  ∀ (whole : Sem Value) (pins : List (Addr × Obj)) (s : Shared) (σ : St) (H : Hp) (Q : Bool → Hp → Prop), Inv X pins σ H s → t σ H Q → wpAny (model X.prog X.w) X.A (isTrue e X.env whole) (TP X pins σ Q) X.xe s
theorem PW.pt {X : Cx} {e : Expr} {t : TT} (h : PW X e t) : PT X e t := h _
/-- an argument list (no star), from the left -/
def PA (X : Cx) (es : List Expr) (t : TA) : Prop :=
  ∀ (pos : Pos) (pins : List (Addr × Obj)) (s : Shared) (σ : St) (H : Hp) (Q : List V → Hp → Prop), Inv X pins σ H s → t σ H Q → wpAny (model X.prog X.w) X.A (spliced (backTo pos (starEach es X.env))) (AP X pins σ Q) X.xe s
def PS (X : Cx) (st : Stmt) (t : TS) : Prop :=
  ∀ (pins : List (Addr × Obj)) (s : Shared) (σ : St) (H : Hp) (D : Ends), Inv X pins σ H s → t D σ H → wpAny (model X.prog X.w) X.A (exec st X.env) (SP X pins D) X.xe s
def PSs (X : Cx) (st : List Stmt) (t : TS) : Prop :=
  ∀ (pins : List (Addr × Obj)) (s : Shared) (σ : St) (H : Hp) (D : Ends), Inv X pins σ H s → t D σ H → wpAny (model X.prog X.w) X.A (execs st X.env) (SP X pins D) X.xe s
/-- weaken the end -/
theorem thn {α : Type} {t : Sem α} {Q Q' : α → Shared → Prop} {M : Model} {A : Around} {E : Value → Shared → Prop} {s : Shared} (h : wpAny M A t Q E s) (hQ : ∀ a s, Q a s → Q' a s) : wpAny M A t Q' E s := wpAny_mono h hQ fun _ _ x => x
end L2

namespace L2
open PySem PySem.Spec PyProof.Rows
section
variable {X : Cx}

/-- two expressions in a row -/
theorem bin {a b : Expr} {ta tb : TE} (ha : PE X a ta) (hb : PE X b tb) {pins : List (Addr × Obj)} {s : Shared} {σ : St} {H : Hp} {R : V → V → Hp → Prop} (I : Inv X pins σ H s) (h : ta σ H fun x H1 => tb σ H1 fun y H2 => R x y H2)
    {α : Type} {Q : α → Shared → Prop} {f : Value → Value → Sem α}
    (hf : ∀ v u s2 x y H2, Inv X pins σ H2 s2 → RelV x v → RelV y u → R x y H2 → wpAny (model X.prog X.w) X.A (f v u) Q X.xe s2) :
    wpAny (model X.prog X.w) X.A (eval a X.env) (fun v s₁ => wpAny (model X.prog X.w) X.A (eval b X.env) (fun u s₂ => wpAny (model X.prog X.w) X.A (f v u) Q X.xe s₂) X.xe s₁) X.xe s := by
  refine thn (ha pins s σ H _ I h) fun v s1 ⟨x, H1, I1, r1, q1⟩ => ?_
  refine thn (hb pins s1 σ H1 _ I1 q1) fun u s2 ⟨y, H2, I2, r2, q2⟩ => ?_
  exact hf v u s2 x y H2 I2 r1 r2 q2

/-! ### names and constants -/
def tVar (i : Nat) : TE := fun σ H Q => ∃ v, σ[i]? = some (some v) ∧ Q v H
def tC (v : V) : TE := fun _ H Q => Q v H
theorem pe_var {i : Nat} {x : Str} {pos : Pos} (hN : X.N[i]? = some x) (hv : Vis X.env.scope x) (hd : (x == ("__debug__" : Str)) = false := by decide) (hcd : (x == ("__classdict__" : Str)) = false := by decide) : PE X (.Name x pos) (tVar i) := by
  intro pins s σ H Q I h
  obtain ⟨v, e, h⟩ := h
  obtain ⟨m, hn, hl⟩ := I.loc
  obtain ⟨u, r, l⟩ := hl i x v hN e hv
  have fin : EP X pins σ Q u s := ⟨v, H, I, r, h⟩
  rcases l with ⟨hk, hm⟩ | ⟨hk, c, hc, hcell⟩
  · exact wpAny_Name (wpAny_loadName_local I.ok.kind hk hn hm fin) hd
  · rcases hk with hk | hk
    · exact wpAny_Name (wpAny_loadName_cell I.ok.kind hk hc hcell fin) hd
    · exact wpAny_Name (wpAny_loadName_free I.ok.kind hk hc hcell fin hcd) hd
theorem pe_int {i j pos} : PE X (.Constant (.int i) j pos) (tC (.int i)) := fun _ _ _ H _ I h => wpAny_Constant_int ⟨.int i, H, I.tok _, ⟨_, rfl⟩, h⟩
theorem pe_bl {b j pos} : PE X (.Constant (.bool b) j pos) (tC (.bl b)) := fun _ _ _ H _ I h => Constant_bool ⟨.bl b, H, I, rfl, h⟩
theorem pe_str {x j pos} : PE X (.Constant (.str x) j pos) (tC (.str x)) := fun _ _ _ H _ I h => Calls.Constant_str ⟨.str x, H, I.tok _, ⟨_, rfl⟩, h⟩

/-- a global name of the def -/
def Gl (X : Cx) (x : Str) : Prop := X.env.kindOf x = some .globalImplicit
theorem ld_glob {E : Value → Shared → Prop} {pins : List (Addr × Obj)} {s : Shared} {σ : St} {H : Hp} {x : Str} {u : Value} {pos : Pos} {Q : Value → Shared → Prop} (I : Inv X pins σ H s) (hg : Gl X x) (hm : X.mg x = some u) (h : Q u s)
    (hd : (x == ("__debug__" : Str)) = false := by decide) : wpAny (model X.prog X.w) X.A (eval (.Name x pos) X.env) Q E s :=
  Calls.Name_function_global I.ok.kind hg (Calls.loadGlobal_global (by rw [I.ok.glob]; exact I.mod.glob.keeps I.bk) hm h) hd
theorem ld_blt {E : Value → Shared → Prop} {pins : List (Addr × Obj)} {s : Shared} {σ : St} {H : Hp} {x : Str} {u : Value} {pos : Pos} {Q : Value → Shared → Prop} (I : Inv X pins σ H s) (hg : Gl X x) (hm : X.mg x = none) (hv : bootBuiltins x = some u) (h : Q u s)
    (hn : x ≠ "__name__" := by decide) (hd : (x == ("__debug__" : Str)) = false := by decide) : wpAny (model X.prog X.w) X.A (eval (.Name x pos) X.env) Q E s := by
  obtain ⟨mb, h1, h2⟩ := I.mod.blt
  exact Calls.Name_function_global I.ok.kind hg (Calls.loadGlobal_builtin (by rw [I.ok.glob]; exact I.mod.glob.keeps I.bk) hm (by rw [I.ok.blt]; exact h1.keeps I.bk) ((h2 x hn).trans hv) h) hd
/-- a module's constant, a class, a function, as a value -/
theorem pe_glob {x : Str} {v : V} {u : Value} {pos : Pos} (hg : Gl X x) (hm : X.mg x = some u) (r : RelV v u) (hd : (x == ("__debug__" : Str)) = false := by decide) : PE X (.Name x pos) (tC v) :=
  fun _ _ _ H _ I h => ld_glob I hg hm ⟨v, H, I, r, h⟩ hd
theorem pe_bltn {x : Str} {v : V} {u : Value} {pos : Pos} (hg : Gl X x) (hm : X.mg x = none) (hv : bootBuiltins x = some u) (r : RelV v u) (hn : x ≠ "__name__" := by decide) (hd : (x == ("__debug__" : Str)) = false := by decide) : PE X (.Name x pos) (tC v) :=
  fun _ _ _ H _ I h => ld_blt I hg hm hv ⟨v, H, I, r, h⟩ hn hd

/-! ### arithmetic -/
/-- two ints -/
def t2I (ta tb : TE) (k : Int → Int → Hp → Prop) : St → Hp → Prop := fun σ H => ta σ H fun x H1 => tb σ H1 fun y H2 => ∃ i j, x = .int i ∧ y = .int j ∧ k i j H2
def tAdd (ta tb : TE) : TE := fun σ H Q => t2I ta tb (fun i j H2 => Q (.int (i + j)) H2) σ H
def tSub (ta tb : TE) : TE := fun σ H Q => t2I ta tb (fun i j H2 => Q (.int (i - j)) H2) σ H
/-- the left factor below 2^64 -/
def tMul (ta tb : TE) : TE := fun σ H Q => t2I ta tb (fun i j H2 => (-(2 ^ 64) < i ∧ i < 2 ^ 64) ∧ Q (.int (i * j)) H2) σ H
variable {a b : Expr} {ta tb : TE} {pos : Pos}
/-! ### comparisons -/
def PC (X : Cx) (op : CmpOp) (a b : Expr) (t : TE) : Prop :=
  ∀ (pins : List (Addr × Obj)) (s : Shared) (σ : St) (H : Hp) (Q : VK), Inv X pins σ H s → t σ H Q →
    wpAny (model X.prog X.w) X.A (eval a X.env) (fun v s₁ => wpAny (model X.prog X.w) X.A (eval b X.env) (fun u s₂ => wpAny (model X.prog X.w) X.A (compareOp op v u) (EP X pins σ Q) X.xe s₂) X.xe s₁) X.xe s
theorem nobehind (b : Expr) {op : CmpOp} (h : op ≠ .In) (h2 : op ≠ .NotIn) : behindInMarks op b = false := by
  have e1 : (op == CmpOp.In) = false := by cases op <;> first | rfl | exact absurd rfl h
  have e2 : (op == CmpOp.NotIn) = false := by cases op <;> first | rfl | exact absurd rfl h2
  cases b <;> simp [behindInMarks, e1, e2]
def tCmp (p : Int → Int → Bool) (ta tb : TE) : TE := fun σ H Q => t2I ta tb (fun i j H2 => Q (.bl (p i j)) H2) σ H
abbrev tLt : TE → TE → TE := tCmp fun i j => decide (i < j)
abbrev tLe : TE → TE → TE := tCmp fun i j => decide (i ≤ j)
abbrev tGt : TE → TE → TE := tCmp fun i j => decide (j < i)
abbrev tGe : TE → TE → TE := tCmp fun i j => decide (j ≤ i)
abbrev tEqI : TE → TE → TE := tCmp fun i j => decide (i = j)
abbrev tNeI : TE → TE → TE := tCmp fun i j => !decide (i = j)
/-- is None -/
def tIsN (ta : TE) : TE := fun σ H Q => ta σ H fun x H1 => Q (.bl (decide (x = .non))) H1
def tNotN (ta : TE) : TE := fun σ H Q => ta σ H fun x H1 => Q (.bl (!decide (x = .non))) H1
/-- a comparison as a value, as a test -/
def tB (t : TE) : TT := fun σ H Q => t σ H fun x H1 => ∃ c, x = .bl c ∧ Q c H1
theorem pt_cmp {op : CmpOp} {t : TE} (h : PC X op a b t) (h1 : behindInMarks op b = false := by first | exact nobehind _ (by decide) (by decide) | rfl) : PT X (.Compare a [op] [b] pos) (tB t) := by
  intro pins s σ H Q I hw
  refine wpAny_isTrue_Compare1 (thn (h pins s σ H _ I hw) fun v s1 h1 => thn h1 fun u s2 h2 => thn h2 fun c s3 ⟨x, H1, I1, r1, q1⟩ => ?_) h1
  obtain ⟨d, rfl, q⟩ := q1
  cases r1
  exact wpAny_truthy_bool ⟨H1, I1, q⟩
/-- an expression whose value is a bool, as a test -/
theorem pt_val {e : Expr} {t : TE} (h : PE X e t) (he : ∀ whole, isTrue e X.env whole = (do let v ← whole; standAt e.pos; holding [v] (truthy v)) := by intro _; rfl) : PT X e (tB t) := by
  intro pins s σ H Q I hw
  refine isTrue_plain (thn (h pins s σ H _ I hw) fun v s1 ⟨x, H1, I1, r1, q1⟩ => ?_) (he _)
  obtain ⟨d, rfl, q⟩ := q1
  cases r1
  exact wpAny_truthy_bool ⟨H1, I1, q⟩

/-! ### and, or, not -/
variable {tA tB' : TT} {rest : List Expr}
def tAnd (t u : TT) : TT := fun σ H Q => t σ H fun c H1 => if c = true then u σ H1 Q else Q false H1
def tOr (t u : TT) : TT := fun σ H Q => t σ H fun c H1 => if c = true then Q true H1 else u σ H1 Q
def tNot (t : TT) : TT := fun σ H Q => t σ H fun c H1 => Q (!c) H1
theorem pw_or1 (ha : PT X a tA) : PW X (.BoolOp .Or [a] pos) tA := by
  intro wh pins s σ H Q I h
  refine isTrue_or (thn (ha pins s σ H Q I h) fun c s1 e => ?_)
  cases c with
  | false => exact isTrue_or_nil e
  | true => exact e
theorem pw_or (ha : PT X a tA) (hb : PW X (.BoolOp .Or (b :: rest) pos) tB') : PW X (.BoolOp .Or (a :: b :: rest) pos) (tOr tA tB') := by
  intro wh pins s σ H Q I h
  refine isTrue_or (thn (ha pins s σ H _ I h) fun c s1 ⟨H1, I1, q1⟩ => ?_)
  cases c with
  | true => exact ⟨H1, I1, q1⟩
  | false => exact hb wh pins s1 σ H1 Q I1 q1
theorem pt_not (ha : PT X a tA) : PT X (.UnaryOp .Not a pos) (tNot tA) := by
  intro pins s σ H Q I h
  exact isTrue_not (ha pins s σ H (fun c H1 => Q (!c) H1) I h)
/-- .. as values (bools) -/
def tAndV (ta tb : TE) : TE := fun σ H Q => ta σ H fun x H1 => ∃ c, x = .bl c ∧ if c = true then tb σ H1 Q else Q (.bl false) H1
def tOrV (ta tb : TE) : TE := fun σ H Q => ta σ H fun x H1 => ∃ c, x = .bl c ∧ if c = true then Q (.bl true) H1 else tb σ H1 Q
def tNotV (ta : TE) : TE := fun σ H Q => ta σ H fun x H1 => ∃ c, x = .bl c ∧ Q (.bl (!c)) H1
theorem pe_one {op} {t : TE} (h : PE X a t) : PE X (.BoolOp op [a] pos) t := fun pins s σ H Q I hw => BoolOp_one (h pins s σ H Q I hw)
theorem pe_and (ha : PE X a ta) (hb : PE X (.BoolOp .And (b :: rest) pos) tb) : PE X (.BoolOp .And (a :: b :: rest) pos) (tAndV ta tb) := by
  intro pins s σ H Q I h
  refine BoolOp_and (thn (ha pins s σ H _ I h) fun v s1 ⟨x, H1, I1, r1, q1⟩ => ?_)
  obtain ⟨c, rfl, q1⟩ := q1
  cases r1
  refine wpAny_truthy_bool ?_
  cases c with
  | true => exact hb pins s1 σ H1 Q I1 q1
  | false => exact ⟨.bl false, H1, I1, rfl, q1⟩
theorem pe_or (ha : PE X a ta) (hb : PE X (.BoolOp .Or (b :: rest) pos) tb) : PE X (.BoolOp .Or (a :: b :: rest) pos) (tOrV ta tb) := by
  intro pins s σ H Q I h
  refine BoolOp_or (thn (ha pins s σ H _ I h) fun v s1 ⟨x, H1, I1, r1, q1⟩ => ?_)
  obtain ⟨c, rfl, q1⟩ := q1
  cases r1
  refine wpAny_truthy_bool ?_
  cases c with
  | false => exact hb pins s1 σ H1 Q I1 q1
  | true => exact ⟨.bl true, H1, I1, rfl, q1⟩
theorem pe_not (ha : PE X a ta) : PE X (.UnaryOp .Not a pos) (tNotV ta) := by
  intro pins s σ H Q I h
  refine UnaryOp_ (thn (ha pins s σ H _ I h) fun v s1 ⟨x, H1, I1, r1, q1⟩ => ?_)
  obtain ⟨c, rfl, q1⟩ := q1
  cases r1
  exact not_of (wpAny_truthy_bool ⟨.bl (!c), H1, I1, rfl, q1⟩)
/-- a if t else b -/
def tIf (t : TT) (ta tb : TE) : TE := fun σ H Q => t σ H fun c H1 => if c = true then ta σ H1 Q else tb σ H1 Q
end
end L2

namespace L2
open PySem PySem.Spec PyProof.Rows

/-! ### a list, a tuple that is read: tracked, frozen, or an object of the module -/
def SqL (K : PySem.W.Frag) (H : Hp) (a : Addr) (xs : List V) : Prop :=
  Rd H a (.lst xs) ∨
    ∃ (o : Obj) (its : Array Value) (n : Nat), K.lookup a = some o ∧ o.cls = .type "list" ∧ o.dict = none ∧ o.data = .seq its n ∧ its.size ≤ sizeLine ∧ Vals xs its.toList
def SqT (K : PySem.W.Frag) (H : Hp) (a : Addr) (xs : List V) : Prop :=
  Rd H a (.tup xs) ∨
    ∃ (o : Obj) (its : Array Value) (n : Nat), K.lookup a = some o ∧ o.cls = .type "tuple" ∧ o.data = .seq its n ∧ its.size ≤ sizeLine ∧ Vals xs its.toList
def absV : Value → Option V
  | .none => some .non
  | .bool b => some (.bl b)
  | .int i _ => some (.int i)
  | .str x _ => some (.str x)
  | .bytes b _ => some (.byt b)
  | .float b _ => some (.flt b)
  | .ref a => some (.ref a)
  | .type n => some (.ty n)
  | _ => none
theorem RelV.abs {x : V} {u : Value} (r : RelV x u) : absV u = some x := by
  cases x with
  | non => cases r; rfl
  | bl _ => cases r; rfl
  | int _ => obtain ⟨t, rfl⟩ := r; rfl
  | str _ => obtain ⟨t, rfl⟩ := r; rfl
  | byt _ => obtain ⟨t, rfl⟩ := r; rfl
  | flt _ => obtain ⟨t, rfl⟩ := r; rfl
  | ref _ => cases r; rfl
  | ty _ => cases r; rfl
theorem RelV.inj {x y : V} {u : Value} (r : RelV x u) (q : RelV y u) : x = y := Option.some.inj (r.abs.symm.trans q.abs)
theorem Vals.inj : ∀ {xs ys : List V} {us : List Value}, Vals xs us → Vals ys us → xs = ys
  | _, _, _, .nil, .nil => rfl
  | _, _, _, .cons r t, .cons r' t' => by rw [r.inj r', Vals.inj t t']
section
variable {X : Cx} {pins : List (Addr × Obj)} {σ : St} {H : Hp} {s : Shared} {a : Addr} {xs ys : List V}
theorem SqL.of {K : PySem.W.Frag} (h : H a = some (.lst xs)) : SqL K H a xs := .inl (.inl h)
theorem SqT.of {K : PySem.W.Frag} (h : H a = some (.tup xs)) : SqT K H a xs := .inl (.inl h)
theorem Inv.list (I : Inv X pins σ H s) (h : SqL X.K H a xs) : ∃ its : List Value, Vals xs its ∧ PlainL s.heap a its.toArray ∧ xs.length ≤ sizeLine := by
  rcases h with h | ⟨o, its, n, hk, hc, hd, hs, hz, r⟩
  · obtain ⟨z, its, n, r, e⟩ := h.ok I.hok
    exact ⟨its, r, ⟨_, n, e, rfl, rfl, rfl⟩, z⟩
  · refine ⟨its.toList, r, ⟨o, n, I.kIn a o hk, hc, hd, by simpa using hs⟩, ?_⟩
    have e := r.length
    simp only [Array.length_toList] at e
    omega
theorem Inv.tuple (I : Inv X pins σ H s) (h : SqT X.K H a xs) : ∃ its : List Value, Vals xs its ∧ IsTup s.heap a its.toArray ∧ xs.length ≤ sizeLine := by
  rcases h with h | ⟨o, its, n, hk, hc, hs, hz, r⟩
  · obtain ⟨z, its, r, p⟩ := h.ok I.hok
    exact ⟨its, r, p, z⟩
  · refine ⟨its.toList, r, ⟨o, I.kIn a o hk, hc, n, by simpa using hs⟩, ?_⟩
    have e := r.length
    simp only [Array.length_toList] at e
    omega
theorem Inv.list_inj (I : Inv X pins σ H s) (h : SqL X.K H a xs) (h' : SqL X.K H a ys) : xs = ys := by
  obtain ⟨its, r, ⟨o, n, e, _, _, d⟩, _⟩ := I.list h
  obtain ⟨its', r', ⟨o', n', e', _, _, d'⟩, _⟩ := I.list h'
  rw [e] at e'; cases e'
  rw [d] at d'
  injection d' with d1 _
  have : its = its' := by simpa using congrArg Array.toList d1
  subst this
  exact r.inj r'
theorem Inv.tuple_inj (I : Inv X pins σ H s) (h : SqT X.K H a xs) (h' : SqT X.K H a ys) : xs = ys := by
  obtain ⟨its, r, ⟨o, e, _, n, d⟩, _⟩ := I.tuple h
  obtain ⟨its', r', ⟨o', e', _, n', d'⟩, _⟩ := I.tuple h'
  rw [e] at e'; cases e'
  rw [d] at d'
  injection d' with d1 _
  have : its = its' := by simpa using congrArg Array.toList d1
  subst this
  exact r.inj r'
end

/-! ### another wish about exceptions -/
abbrev Cx.wish (X : Cx) (E : Value → Shared → Prop) : Cx := { X with xe := E }
/-- no exception leaves -/
abbrev Cx.nox (X : Cx) : Cx := X.wish fun _ _ => False
theorem Cx.Ok.wish {X : Cx} (ok : X.Ok) (E : Value → Shared → Prop) : (X.wish E).Ok :=
  ⟨ok.mod, ok.kind, ok.glob, ok.blt, ok.above, ok.inj, ok.has, ok.cab, ok.hd, ok.frames, ok.stk, ok.exf, ok.bs, ok.bsz, ok.noex, ok.exfs, ok.funs, ok.frf⟩
theorem Cx.Ok.unwish {X : Cx} {E : Value → Shared → Prop} (ok : (X.wish E).Ok) : X.Ok :=
  ⟨ok.mod, ok.kind, ok.glob, ok.blt, ok.above, ok.inj, ok.has, ok.cab, ok.hd, ok.frames, ok.stk, ok.exf, ok.bs, ok.bsz, ok.noex, ok.exfs, ok.funs, ok.frf⟩
section
variable {X : Cx} {pins : List (Addr × Obj)} {σ : St} {H : Hp} {s : Shared} {E : Value → Shared → Prop}
theorem Inv.wish (I : Inv X pins σ H s) (E : Value → Shared → Prop) : Inv (X.wish E) pins σ H s := ⟨I.ok.wish E, I.os, I.bare, I.base, I.loc, I.cell, I.free, I.freeC, I.pin, I.hok, I.len⟩
theorem Inv.unwish (I : Inv (X.wish E) pins σ H s) : Inv X pins σ H s := ⟨I.ok.unwish, I.os, I.bare, I.base, I.loc, I.cell, I.free, I.freeC, I.pin, I.hok, I.len⟩
theorem SP.unwish {D : Ends} {f : Flow} {s' : Shared} (h : SP (X.wish E) pins D f s') : SP X pins D f s' := by
  cases f with
  | next => obtain ⟨σ', H', I, q⟩ := h; exact ⟨σ', H', I.unwish, q⟩
  | brk => obtain ⟨σ', H', I, q⟩ := h; exact ⟨σ', H', I.unwish, q⟩
  | cont => obtain ⟨σ', H', I, q⟩ := h; exact ⟨σ', H', I.unwish, q⟩
  | ret u => obtain ⟨v, σ', H', I, r, q⟩ := h; exact ⟨v, σ', H', I.unwish, r, q⟩
theorem PE.nox {e : Expr} {t : TE} (h : PE X.nox e t) : PE X e t := fun pins s σ H Q I hw =>
  wpAny_mono (h pins s σ H Q (I.wish _) hw) (fun _ _ ⟨v, H', I', r, q⟩ => ⟨v, H', I'.unwish, r, q⟩) fun _ _ z => False.elim z
theorem PT.nox {e : Expr} {t : TT} (h : PT X.nox e t) : PT X e t := fun pins s σ H Q I hw =>
  wpAny_mono (h pins s σ H Q (I.wish _) hw) (fun _ _ ⟨H', I', q⟩ => ⟨H', I'.unwish, q⟩) fun _ _ z => False.elim z
theorem PSs.nox {st : List Stmt} {t : TS} (h : PSs X.nox st t) : PSs X st t := fun pins s σ H D I hw =>
  wpAny_mono (h pins s σ H D (I.wish _) hw) (fun _ _ q => q.unwish) fun _ _ z => False.elim z
end

/-! ### blocks and small statements -/
section
variable {X : Cx} {st : Stmt} {rest : List Stmt} {t u : TS} {e : Expr} {te : TE} {pos : Pos}
def tNext : TS := fun D σ H => D.nx σ H
def tSeq (t u : TS) : TS := fun D σ H => t { D with nx := u D } σ H
theorem pss_nil : PSs X [] tNext := fun _ _ σ H _ I h => wpAny_execs_nil ⟨σ, H, I, h⟩
theorem pss_cons (h1 : PS X st t) (h2 : PSs X rest u) : PSs X (st :: rest) (tSeq t u) := by
  intro pins s σ H D I h
  refine wpAny_execs_cons (thn (h1 pins s σ H { D with nx := u D } I h) fun f s1 q => ?_)
  cases f with
  | next =>
    obtain ⟨σ', H', I', q⟩ := q
    exact h2 pins s1 σ' H' D I' q
  | ret v => exact q
  | brk => exact q
  | cont => exact q
theorem pss_one (h1 : PS X st t) : PSs X [st] t := by
  intro pins s σ H D I h
  refine wpAny_execs_cons (thn (h1 pins s σ H D I h) fun f s1 q => ?_)
  cases f with
  | next => exact wpAny_execs_nil q
  | ret v => exact q
  | brk => exact q
  | cont => exact q
def tBreak : TS := fun D σ H => D.bk σ H
def tCont : TS := fun D σ H => D.ct σ H
theorem ps_pass : PS X (.Pass pos) tNext := fun _ _ σ H _ I h => wpAny_Pass ⟨σ, H, I, h⟩
/-- in a def's body nothing is shown -/
theorem Inv.quiet {pins : List (Addr × Obj)} {σ : St} {H : Hp} {s : Shared} (I : Inv X pins σ H s) : interactive X.env = false := by simp [interactive, I.ok.kind]
/-- an expression whose value is dropped -/
def tDrop (te : TE) : TS := fun D σ H => te σ H fun _ H1 => D.nx σ H1
theorem ps_expr (he : PE X e te) (hs : swapsWith e none pos.line X.env = pure false := by rfl) : PS X (.Expr e pos) (tDrop te) := by
  intro pins s σ H D I h
  exact wpAny_Expr_any (thn (he pins s σ H _ I h) fun v s1 ⟨x, H1, I1, r1, q1⟩ => ⟨σ, H1, I1, q1⟩) I.quiet hs
def tRet (te : TE) : TS := fun D σ H => te σ H D.rt
theorem ps_ret (he : PE X e te) : PS X (.Return (some e) pos) (tRet te) := by
  intro pins s σ H D I h
  exact wpAny_Return_some (thn (he pins s σ H _ I h) fun v s1 ⟨x, H1, I1, r1, q1⟩ => ⟨x, σ, H1, I1, r1, q1⟩)
def tRetN : TS := fun D _ H => D.rt .non H
def tIfS (c : TT) (t u : TS) : TS := fun D σ H => c σ H fun b H1 => if b = true then t D σ H1 else u D σ H1
theorem ps_if {c : Expr} {a b : List Stmt} {tc : TT} (hc : PT X c tc) (ha : PSs X a t) (hb : PSs X b u) : PS X (.If c a b pos) (tIfS tc t u) := by
  intro pins s σ H D I h
  refine wpAny_If (thn (hc pins s σ H _ I h) fun d s1 ⟨H1, I1, q1⟩ => ?_)
  cases d with
  | true => exact ha pins s1 σ H1 D I1 q1
  | false => exact hb pins s1 σ H1 D I1 q1
/-- code that the proof never comes to -/
def tNever : TS := fun _ _ _ => False
theorem ps_never : PS X st tNever := fun _ _ _ _ _ _ h => h.elim
end

/-! ### targets -/
abbrev TG := V → St → Hp → (St → Hp → Prop) → Prop
abbrev TGs := List V → St → Hp → (St → Hp → Prop) → Prop
def PG (X : Cx) (target : Expr) (t : TG) : Prop :=
  ∀ (pins : List (Addr × Obj)) (s : Shared) (σ : St) (H : Hp) (v : V) (u : Value) (Q : St → Hp → Prop), Inv X pins σ H s → RelV v u → t v σ H Q →
    wpAny (model X.prog X.w) X.A (assign target X.env u) (fun _ s' => ∃ σ' H', Inv X pins σ' H' s' ∧ Q σ' H') X.xe s
/-- several targets, one after another -/
def PGs (X : Cx) (ts : List Expr) (t : TGs) : Prop :=
  ∀ (pins : List (Addr × Obj)) (s : Shared) (σ : St) (H : Hp) (vs : List V) (us : List Value) (Q : St → Hp → Prop), Inv X pins σ H s → Vals vs us → t vs σ H Q →
    wpAny (model X.prog X.w) X.A (assignInOrder ((assignEach ts X.env).map (·.2)) us) (fun _ s' => ∃ σ' H', Inv X pins σ' H' s' ∧ Q σ' H') X.xe s
/-- o[i] = v, by values -/
abbrev TSet := V → V → V → Hp → (Hp → Prop) → Prop
def PSet (X : Cx) (t : TSet) : Prop :=
  ∀ (pins : List (Addr × Obj)) (s : Shared) (σ : St) (H : Hp) (o i v : V) (ov iv u : Value) (Q : Hp → Prop), Inv X pins σ H s → RelV o ov → RelV i iv → RelV v u → t o i v H Q →
    wpAny (model X.prog X.w) X.A (setItem ov iv u) (fun _ s' => ∃ H', Inv X pins σ H' s' ∧ Q H') X.xe s
/-- a op= b, by values -/
abbrev TIp := V → V → Hp → VK → Prop
def PIp (X : Cx) (op : Operator) (t : TIp) : Prop :=
  ∀ (pins : List (Addr × Obj)) (s : Shared) (σ : St) (H : Hp) (x y : V) (v u : Value) (Q : VK), Inv X pins σ H s → RelV x v → RelV y u → t x y H Q →
    wpAny (model X.prog X.w) X.A (inplaceOp op v u) (EP X pins σ Q) X.xe s
section
variable {X : Cx} {pos : Pos}
def gName (i : Nat) : TG := fun v σ H Q => Q (σ.set i (some v)) H
theorem pg_name {i : Nat} {x : Str} (hN : X.N.Nodup) (hi : X.N[i]? = some x) (hx : Loc X.env.scope x) (hf : X.fn x = true ∨ X.env.scope.names.lookup x = some .local := by first | exact .inl rfl | exact .inr rfl | assumption) : PG X (.Name x pos) (gName i) := by
  intro pins s σ H v u Q I r h
  exact wpAny_assign_Name (store_ok I hN hi hx r (fun s' I' => ⟨_, H, I', h⟩) hf)
def gNil : TGs := fun vs σ H Q => vs = [] ∧ Q σ H
def gCons (t : TG) (u : TGs) : TGs := fun vs σ H Q => ∃ v r, vs = v :: r ∧ t v σ H fun σ' H' => u r σ' H' Q
theorem pgs_nil : PGs X [] gNil := by
  intro pins s σ H vs us Q I r h
  obtain ⟨e, h⟩ := h
  subst e
  cases r
  exact assignInOrder_nil ⟨σ, H, I, h⟩
theorem pgs_cons {e : Expr} {es : List Expr} {t : TG} {u : TGs} (h1 : PG X e t) (h2 : PGs X es u)
    (hs : (assignEach (e :: es) X.env).map (·.2) = assign e X.env :: (assignEach es X.env).map (·.2) := by rfl) : PGs X (e :: es) (gCons t u) := by
  intro pins s σ H vs us Q I r h
  obtain ⟨v, vr, e1, h⟩ := h
  subst e1
  cases r with
  | cons r rr =>
    rw [hs]
    refine assignInOrder_cons (thn (h1 pins s σ H _ _ _ I r h) fun _ s1 ⟨σ1, H1, I1, q1⟩ => ?_)
    exact h2 pins s1 σ1 H1 _ _ Q I1 rr q1
/-- (a, b, ..) = a tuple of that length -/
def gTup (K : PySem.W.Frag) (n : Nat) (t : TGs) : TG := fun v σ H Q => ∃ a xs, v = .ref a ∧ SqT K H a xs ∧ xs.length = n ∧ t xs σ H Q
theorem pg_tup {es : List Expr} {k : Nat} {t : TGs} {n : Nat} (hc : X.calm = true) (h : PGs X es t)
    (hn : (assignEach es X.env).length = n := by rfl) (hst : (assignEach es X.env).findIdx? (·.1) = none := by rfl) : PG X (.Tuple es k pos) (gTup X.K n t) := by
  intro pins s σ H v u Q I r hw
  obtain ⟨a, xs, e1, hq, hl, hw⟩ := hw
  subst e1
  cases r
  obtain ⟨its, rv, ht, hz⟩ := I.tuple hq
  refine assign_Tuple_tuple (I.ok.hd hc) ht (by simp [hn, ← hl, rv.length]) hst fun h' hx => ?_
  have I1 : Inv X pins σ H { s with heap := h' } := I.kept (t' := s.toks) fun b o e => hx b o (Nat.ne_of_lt (Heap.lt_size e)) e
  exact h pins _ σ H xs _ Q I1 (by simpa using rv) hw
/-- o[i] = .. -/
def gSub (to ti : TE) (t : TSet) : TG := fun v σ H Q => to σ H fun o H1 => ti σ H1 fun i H2 => t o i v H2 fun H3 => Q σ H3
/-- target = value -/
def tAsg (te : TE) (g : TG) : TS := fun D σ H => te σ H fun x H1 => g x σ H1 D.nx
theorem ps_asg {tg e : Expr} {te : TE} {g : TG} (he : PE X e te) (hg : PG X tg g) (hs : swapsWithSole [tg] e pos.line X.env = pure false := by rfl) (hw : swappedStores [tg] e X.env = pure none := by rfl)
    (h1 : (assignEach [tg] X.env).map (·.2) = [assign tg X.env] := by rfl) : PS X (.Assign [tg] e pos) (tAsg te g) := by
  intro pins s σ H D I h
  refine wpAny_Assign_stores (thn (he pins s σ H _ I h) fun v s1 ⟨x, H1, I1, r1, q1⟩ => ?_) hs hw
  rw [h1]
  exact thn (hg pins s1 σ H1 x v _ I1 r1 q1) fun _ s2 q => q
/-- name = value -/
theorem ps_set {i : Nat} {x : Str} {e : Expr} {te : TE} {pos' : Pos} (hN : X.N.Nodup) (hi : X.N[i]? = some x) (hx : Loc X.env.scope x) (he : PE X e te) (hs : swapsWith e (some (.Name x pos')) pos.line X.env = pure false := by rfl) (hf : X.fn x = true ∨ X.env.scope.names.lookup x = some .local := by first | exact .inl rfl | exact .inr rfl | assumption) :
    PS X (.Assign [.Name x pos'] e pos) (tAsg te (gName i)) := by
  intro pins s σ H D I h
  refine wpAny_Assign_Name (thn (he pins s σ H _ I h) fun v s1 ⟨y, H1, I1, r1, q1⟩ => ?_) hs
  exact store_ok I1 hN hi hx r1 (fun s2 I2 => ⟨_, H1, I2, q1⟩) hf
/-- a, b = x, y with plain local names: stored from the right; the pair itself is not tracked (the opening rows as in PyProof/Rows/TupAssign.lean:23) -/
def tPar (i j : Nat) (ta : TA) : TS := fun D σ H => ta σ H fun vs H1 => ∃ v w, vs = [v, w] ∧ D.nx ((σ.set i (some v)).set j (some w)) H1
/-- name op= e -/
def tAug (i : Nat) (te : TE) (ti : TIp) : TS := fun D σ H => ∃ x, σ[i]? = some (some x) ∧ te σ H fun y H1 => ti x y H1 fun z H2 => D.nx (σ.set i (some z)) H2
/-- o[i] op= e -/
def tAugS (to ti te : TE) (tget : V → V → Hp → VK → Prop) (tip : TIp) (tset : TSet) : TS := fun D σ H => to σ H fun o H1 => ti σ H1 fun i H2 => tget o i H2 fun x H3 => te σ H3 fun y H4 => tip x y H4 fun z H5 => tset o i z H5 fun H6 => D.nx σ H6
/-- o[i], by values -/
def PGet (X : Cx) (t : V → V → Hp → VK → Prop) : Prop :=
  ∀ (pins : List (Addr × Obj)) (s : Shared) (σ : St) (H : Hp) (o i : V) (ov iv : Value) (Q : VK), Inv X pins σ H s → RelV o ov → RelV i iv → t o i H Q →
    wpAny (model X.prog X.w) X.A (getItem ov iv) (EP X pins σ Q) X.xe s
/-- ints -/
def ipI (f : Int → Int → Int) : TIp := fun x y H Q => ∃ i j, x = .int i ∧ y = .int j ∧ Q (.int (f i j)) H
end

/-! ### while -/
section
variable {X : Cx} {pos : Pos}
/-- the invariant W with its measure -/
def tWhile (c : TT) (tb : TS) : TS := fun D σ H => ∃ W : Nat → St → Hp → Prop, (∃ m, W m σ H) ∧ ∀ m σ H, W m σ H →
  c σ H fun b H1 => if b = true then ∃ N : St → Hp → Prop, (∀ σ' H', N σ' H' → ∃ m', m' < m ∧ W m' σ' H') ∧ tb { D with nx := N, ct := N, bk := D.nx } σ H1 else D.nx σ H1
end

/-! ### what a loop or a comprehension walks -/
/-- at turn i: it yields x (the heap may grow), or it stops -/
structure It where
  go : Nat → Hp → Prop
  yld : Nat → Hp → V → Hp → Prop
  stop : Nat → Hp → Prop
/-- the iterator's own objects may turn: they are not the frame's, not pinned, younger than the entry (or a comprehension's own) -/
def FpOk (X : Cx) (pins : List (Addr × Obj)) (H : Hp) (b : Addr) : Prop :=
  H b = none ∧ b ≠ X.env.locals ∧ b ∉ X.fs ∧ (b ∈ X.ex ∨ X.s_0.heap.objs.size ≤ b) ∧ (∀ x c, X.env.cells.lookup x = some c → c ≠ b) ∧ ∀ p ∈ X.pn ++ pins, p.1 ≠ b
theorem Inv.fpOk {X : Cx} {pins : List (Addr × Obj)} {σ : St} {H H' : Hp} {s : Shared} {b : Addr} (I : Inv X pins σ H s) (hb : s.heap.objs.size ≤ b) (hn : H' b = none) : FpOk X pins H' b := by
  refine ⟨hn, Nat.ne_of_gt (Nat.lt_of_lt_of_le I.lt hb), I.nofs hb, .inr (Nat.le_trans I.sz hb), fun x c e z => ?_, fun p hp z => ?_⟩
  · obtain ⟨v, q⟩ := I.cell x c e
    exact absurd (Nat.lt_of_lt_of_le q.lt (by rw [z]; exact hb)) (Nat.lt_irrefl _)
  · exact absurd (Nat.lt_of_lt_of_le (Heap.lt_size (I.pin p hp).1) (by rw [z]; exact hb)) (Nat.lt_irrefl _)
structure Turn (P : Program) (w : World) (K : PySem.W.Frag) (tg : Expr) (J : It) (fp : List Addr) (it : Addr) (tn : Nat → Heap → Prop) : Prop where
  mem : it ∈ fp
  obj : ∀ i h, tn i h → ∀ b ∈ fp, ∃ o, h.get? b = some o ∧ ∀ v, o.data ≠ .cell v
  keep : ∀ i h h', tn i h → (∀ b ∈ fp, ∀ o, h.get? b = some o → h'.get? b = some o) → tn i h'
  item : ∀ (X : Cx), X.prog = P → X.w = w → X.K = K → X.calm = true → ∀ (i : Nat) (pins : List (Addr × Obj)) (s : Shared) (σ : St) (H : Hp) (E : Value → Shared → Prop), Inv X pins σ H s → (∀ b ∈ fp, FpOk X pins H b) → tn i s.heap → J.go i H →
    wpAny (model P w) X.A (pyNext (.ref it)) (fun r s1 => ∃ u, r = some u ∧
      wpAny (model P w) X.A (letOwnedTupleGo tg (.ref it) u) (fun _ s2 => ∃ x H', Inv X pins σ H' s2 ∧ RelV x u ∧ J.yld i H x H' ∧ tn (i + 1) s2.heap ∧ ∀ b ∈ fp, H' b = none) E s1) E s
  done : ∀ (X : Cx), X.prog = P → X.w = w → X.K = K → X.calm = true → ∀ (i : Nat) (pins : List (Addr × Obj)) (s : Shared) (σ : St) (H : Hp) (E : Value → Shared → Prop), Inv X pins σ H s → (∀ b ∈ fp, FpOk X pins H b) → tn i s.heap → J.stop i H →
    wpAny (model P w) X.A (pyNext (.ref it)) (fun r s1 => r = none ∧ Inv X pins σ H s1) E s
  self : ∀ (A : Around) (i : Nat) (s : Shared) (Q : Value → Shared → Prop) (E : Value → Shared → Prop), tn i s.heap → Q (.ref it) s → wpAny (model P w) A (pyIter (.ref it)) Q E s
abbrev TI := St → Hp → (It → Hp → Prop) → Prop
/-- an iterator has come -/
def PIE (X : Cx) (pins : List (Addr × Obj)) (σ : St) (tg : Expr) (R : It → Hp → Prop) (itv : Value) (s2 : Shared) : Prop :=
  ∃ (it : Addr) (fp : List Addr) (tn : Nat → Heap → Prop) (J : It) (H' : Hp), itv = .ref it ∧ Inv X pins σ H' s2 ∧ Turn X.prog X.w X.K tg J fp it tn ∧ tn 0 s2.heap ∧ (∀ b ∈ fp, FpOk X pins H' b) ∧ R J H'
def PI (X : Cx) (tg iter : Expr) (wi : TI) : Prop :=
  ∀ (pins : List (Addr × Obj)) (s : Shared) (σ : St) (H : Hp) (R : It → Hp → Prop), Inv X pins σ H s → wi σ H R →
    wpAny (model X.prog X.w) X.A (eval iter X.env) (fun v s1 => wpAny (model X.prog X.w) X.A (pyIter v) (PIE X pins σ tg R) X.xe s1) X.xe s

/-- the step ahead of the store is nothing for an iterator that keeps no tuple -/
theorem go_of {M : Model} {A : Around} {E : Value → Shared → Prop} {s : Shared} {tg : Expr} {it : Addr} {u : Value} {o : Obj} {n : String} {vs : Array Value} {Q : Unit → Shared → Prop} (ho : s.heap.get? it = some o) (hc : o.cls = .type n) (hd : o.data = .fields vs)
    (hn : ["enumerate", "zip", "dict_itemiterator", "dict_reverseitemiterator", "odict_iterator", "itertools.zip_longest", "itertools.pairwise"].contains n = false) (hQ : Q () s) : wpAny M A (letOwnedTupleGo tg (.ref it) u) Q E s := by
  unfold letOwnedTupleGo
  cases tg <;> first
    | exact wpAny_pure hQ
    | (cases u <;> first
        | exact wpAny_pure hQ
        | (refine wpAny_bind (wpAny_load ho ?_)
           rw [hc, hd]
           show wpAny M A (if (["enumerate", "zip", "dict_itemiterator", "dict_reverseitemiterator", "odict_iterator", "itertools.zip_longest", "itertools.pairwise"].contains n && vs[0]? == some (rawInt _)) = true then _ else _) Q E s
           rw [if_neg (by intro h; rw [hn, Bool.false_and] at h; cases h)]
           exact wpAny_pure hQ))

/-- the list at a, as it stands at each turn (a loop may append to it) -/
def Itl (K : PySem.W.Frag) (a : Addr) : It :=
  ⟨fun i H => ∃ xs x, SqL K H a xs ∧ xs[i]? = some x, fun i H x H' => H' = H ∧ ∀ xs, SqL K H a xs → xs[i]? = some x, fun i H => ∃ xs, SqL K H a xs ∧ xs.length ≤ i⟩
def Itt (K : PySem.W.Frag) (a : Addr) : It :=
  ⟨fun i H => ∃ xs x, SqT K H a xs ∧ xs[i]? = some x, fun i H x H' => H' = H ∧ ∀ xs, SqT K H a xs → xs[i]? = some x, fun i H => ∃ xs, SqT K H a xs ∧ xs.length ≤ i⟩
/-- lo, lo + 1, .. (n of them) -/
def Itr (lo : Int) (n : Nat) : It := ⟨fun i _ => i < n, fun i H x H' => H' = H ∧ x = .int (lo + i), fun i _ => n ≤ i⟩
theorem turn_list {P : Program} {w : World} {K : PySem.W.Frag} {tg : Expr} (a it : Addr) : Turn P w K tg (Itl K a) [it] it (fun i h => h.IsListIter it a i) where
  mem := by simp
  obj := fun i h st b hb => by
    have e : b = it := by simpa using hb
    subst e
    obtain ⟨o, e, c, d⟩ := st
    exact ⟨o, e, fun v z => by rw [d] at z; cases z⟩
  keep := fun i h h' st k => st.at fun o e => k it (by simp) o e
  item := by
    intro X hP hw hK hc i pins s σ H E I hf st hg
    subst hP hw hK
    obtain ⟨xs, x, hq, hx⟩ := hg
    obtain ⟨its, rv, p, hz⟩ := I.list hq
    obtain ⟨u, hu, ru⟩ := rv.get hx
    obtain ⟨f0, f1, f2, f3, f4, f5⟩ := hf it (by simp)
    refine wpAny_pyNext_list_item st p.isList (x := u) (by simpa using hu) fun h' st' sb => ?_
    have I1 : Inv X pins σ H { s with heap := h' } := I.turned (t' := s.toks) (fun b o hb e => (sb.2 b hb).trans e) f0 f1 f3 f4 f5
    obtain ⟨o, e, c, d⟩ := id st'
    exact ⟨u, rfl, go_of (s := { s with heap := h' }) e c d (by decide) ⟨x, H, I1, ru, ⟨rfl, fun ys hy => by rw [I.list_inj hy hq]; exact hx⟩, st', fun b hb => (hf b hb).1⟩⟩
  done := by
    intro X hP hw hK hc i pins s σ H E I hf st hg
    subst hP hw hK
    obtain ⟨xs, hq, hx⟩ := hg
    obtain ⟨its, rv, p, hz⟩ := I.list hq
    obtain ⟨f0, f1, f2, f3, f4, f5⟩ := hf it (by simp)
    have hl := rv.length
    exact wpAny_pyNext_list_end (I.ok.hd hc) st p.isList (by simp; omega) fun h' eb => ⟨rfl, I.turned (t' := s.toks) (fun b o hb e => eb b o hb e) f0 f1 f3 f4 f5⟩
  self := fun _ _ _ _ _ st h => wpAny_pyIter_listiter st h
theorem turn_tuple {P : Program} {w : World} {K : PySem.W.Frag} {tg : Expr} (a it : Addr) : Turn P w K tg (Itt K a) [it] it (fun i h => h.IsTupleIter it a i) where
  mem := by simp
  obj := fun i h st b hb => by
    have e : b = it := by simpa using hb
    subst e
    obtain ⟨o, e, c, d⟩ := st
    exact ⟨o, e, fun v z => by rw [d] at z; cases z⟩
  keep := fun i h h' st k => st.at fun o e => k it (by simp) o e
  item := by
    intro X hP hw hK hc i pins s σ H E I hf st hg
    subst hP hw hK
    obtain ⟨xs, x, hq, hx⟩ := hg
    obtain ⟨its, rv, p, hz⟩ := I.tuple hq
    obtain ⟨u, hu, ru⟩ := rv.get hx
    obtain ⟨f0, f1, f2, f3, f4, f5⟩ := hf it (by simp)
    refine wpAny_pyNext_tuple_item st (show s.heap.IsTuple a its.toArray from p) (x := u) (by simpa using hu) fun h' st' sb => ?_
    have I1 : Inv X pins σ H { s with heap := h' } := I.turned (t' := s.toks) (fun b o hb e => (sb.2 b hb).trans e) f0 f1 f3 f4 f5
    obtain ⟨o, e, c, d⟩ := id st'
    exact ⟨u, rfl, go_of (s := { s with heap := h' }) e c d (by decide) ⟨x, H, I1, ru, ⟨rfl, fun ys hy => by rw [I.tuple_inj hy hq]; exact hx⟩, st', fun b hb => (hf b hb).1⟩⟩
  done := by
    intro X hP hw hK hc i pins s σ H E I hf st hg
    subst hP hw hK
    obtain ⟨xs, hq, hx⟩ := hg
    obtain ⟨its, rv, p, hz⟩ := I.tuple hq
    obtain ⟨f0, f1, f2, f3, f4, f5⟩ := hf it (by simp)
    have hl := rv.length
    exact wpAny_pyNext_tuple_end (I.ok.hd hc) st (show s.heap.IsTuple a its.toArray from p) (by simp; omega) fun h' eb => ⟨rfl, I.turned (t' := s.toks) (fun b o hb e => eb b o hb e) f0 f1 f3 f4 f5⟩
  self := fun _ _ _ _ _ st h => wpAny_pyIter_tupleiter st h
theorem turn_range {P : Program} {w : World} {K : PySem.W.Frag} {tg : Expr} (it : Addr) (lo : Int) (n : Nat) : Turn P w K tg (Itr lo n) [it] it (fun i h => IsRangeIter h it (lo + (i : Nat) * 1) ((n : Int) - (i : Nat)) 1) where
  mem := by simp
  obj := fun i h st b hb => by
    have e : b = it := by simpa using hb
    subst e
    exact ⟨_, st, fun v z => by
      have z' : Data.fields _ = Data.cell v := z
      cases z'⟩
  keep := fun i h h' st k => k it (by simp) _ st
  item := by
    intro X hP hw hK hc i pins s σ H E I hf st hg
    subst hP hw hK
    obtain ⟨f0, f1, f2, f3, f4, f5⟩ := hf it (by simp)
    have W := Walks.range (prog := X.prog) (w := X.w) (I.ok.hd hc) it lo 1 n
    refine W.item i s _ _ hg st fun v h' tk hv st' kk => ?_
    obtain ⟨t, rfl⟩ := hv
    have I1 : Inv X pins σ H { s with heap := h', toks := tk } := I.turned (fun b o hb e => kk b o (by simpa using hb) e) f0 f1 f3 f4 f5
    refine ⟨_, rfl, go_of (s := { s with heap := h', toks := tk }) (n := "range_iterator") st' rfl rfl (by decide) ⟨.int (lo + i), H, I1, ⟨t, ?_⟩, ⟨rfl, rfl⟩, st', fun b hb => (hf b hb).1⟩⟩
    rw [Int.mul_one]
  done := by
    intro X hP hw hK hc i pins s σ H E I hf st hg
    subst hP hw hK
    obtain ⟨f0, f1, f2, f3, f4, f5⟩ := hf it (by simp)
    exact wpAny_pyNext_range_end (I.ok.hd hc) st (by have : n ≤ i := hg; omega) fun h' eb => ⟨rfl, I.turned (t' := s.toks) (fun b o hb e => eb b o hb e) f0 f1 f3 f4 f5⟩
  self := fun _ _ _ _ _ st h => wpAny_pyIter_rangeiter st h
end L2

namespace L2
open PySem PySem.Spec PyProof.Rows
section
variable {X : Cx} {tg : Expr}
def iList (K : PySem.W.Frag) (tl : TE) : TI := fun σ H R => tl σ H fun x H1 => ∃ a, x = .ref a ∧ (∃ xs, SqL K H1 a xs) ∧ R (Itl K a) H1
def iTup (K : PySem.W.Frag) (tl : TE) : TI := fun σ H R => tl σ H fun x H1 => ∃ a, x = .ref a ∧ (∃ xs, SqT K H1 a xs) ∧ R (Itt K a) H1
theorem pi_list {l : Expr} {tl : TE} (hl : PE X l tl) : PI X tg l (iList X.K tl) := by
  intro pins s σ H R I h
  refine thn (hl pins s σ H _ I h) fun v s1 ⟨x, H1, I1, r1, q1⟩ => ?_
  obtain ⟨a, e, ⟨xs, hq⟩, q⟩ := q1
  subst e
  cases r1
  obtain ⟨its, rv, p, hz⟩ := I1.list hq
  refine wpAny_pyIter_list p.isList ?_
  refine ⟨s1.heap.objs.size, [s1.heap.objs.size], _, _, H1, rfl, I1.kept (t' := s1.toks) fun b o e => Heap.get?_push_of_some _ e, turn_list a _, ⟨_, Heap.get?_push_size _ rfl, rfl, rfl⟩, fun b hb => ?_, q⟩
  have e : b = s1.heap.objs.size := by simpa using hb
  subst e
  exact I1.fpOk (Nat.le_refl _) (I1.hok.fresh (Nat.le_refl _))
theorem pi_tup {l : Expr} {tl : TE} (hl : PE X l tl) : PI X tg l (iTup X.K tl) := by
  intro pins s σ H R I h
  refine thn (hl pins s σ H _ I h) fun v s1 ⟨x, H1, I1, r1, q1⟩ => ?_
  obtain ⟨a, e, ⟨xs, hq⟩, q⟩ := q1
  subst e
  cases r1
  obtain ⟨its, rv, p, hz⟩ := I1.tuple hq
  refine wpAny_pyIter_tuple (show s1.heap.IsTuple a its.toArray from p) ?_
  refine ⟨s1.heap.objs.size, [s1.heap.objs.size], _, _, H1, rfl, I1.kept (t' := s1.toks) fun b o e => Heap.get?_push_of_some _ e, turn_tuple a _, ⟨_, Heap.get?_push_size _ rfl, rfl, rfl⟩, fun b hb => ?_, q⟩
  have e : b = s1.heap.objs.size := by simpa using hb
  subst e
  exact I1.fpOk (Nat.le_refl _) (I1.hok.fresh (Nat.le_refl _))
/-- a range object just made, walked -/
theorem range_it {pins : List (Addr × Obj)} {σ : St} {H : Hp} {s : Shared} {R : It → Hp → Prop} {E : Value → Shared → Prop} {lo hi : Int} {t u v : Tok} {tk : Nat} (I : Inv X pins σ H s) (h1 : -(2 ^ 62) ≤ lo) (h2 : lo < 2 ^ 62) (h3 : -(2 ^ 62) ≤ hi) (h4 : hi < 2 ^ 62)
    (q : R (Itr lo (hi - lo).toNat) H) : wpAny (model X.prog X.w) X.A (pyIter (.ref s.heap.objs.size)) (PIE X pins σ tg R) E { s with heap := s.heap.push { cls := .type "range", data := .fields #[.int lo t, .int hi u, .int 1 v] }, toks := tk } := by
  refine wpAny_pyIter_range (IsRange.new ..) (small_one h1 h2 h3 h4) ?_
  have I1 : Inv X pins σ H { s with heap := s.heap.push { cls := .type "range", data := .fields #[.int lo t, .int hi u, .int 1 v] }, toks := tk } := I.kept fun b o e => Heap.get?_push_of_some _ e
  refine ⟨(s.heap.push { cls := .type "range", data := .fields #[.int lo t, .int hi u, .int 1 v] }).objs.size, [(s.heap.push { cls := .type "range", data := .fields #[.int lo t, .int hi u, .int 1 v] }).objs.size], _, _, H, rfl,
    I1.kept (t' := tk) fun b o e => Heap.get?_push_of_some _ e, turn_range _ lo (hi - lo).toNat, ?_, fun b hb => ?_, q⟩
  · have e1 : lo + ((0 : Nat) : Int) * 1 = lo := by simp
    have e2 : (((hi - lo).toNat : Nat) : Int) - ((0 : Nat) : Int) = Builtin.Range.rangeSize lo hi 1 := by rw [rangeSize_one]; split <;> omega
    show IsRangeIter _ _ (lo + ((0 : Nat) : Int) * 1) ((((hi - lo).toNat : Nat) : Int) - ((0 : Nat) : Int)) 1
    rw [e1, e2]
    exact Heap.get?_push_size _ rfl
  · have e : b = (s.heap.push { cls := .type "range", data := .fields #[.int lo t, .int hi u, .int 1 v] }).objs.size := by simpa using hb
    subst e
    exact I1.fpOk (Nat.le_refl _) (I1.hok.fresh (Nat.le_refl _))
def iRng1 (ta : TA) : TI := fun σ H R => ta σ H fun vs H1 => ∃ j : Int, vs = [.int j] ∧ -(2 ^ 62) ≤ j ∧ j < 2 ^ 62 ∧ R (Itr 0 j.toNat) H1
def iRng2 (ta : TA) : TI := fun σ H R => ta σ H fun vs H1 => ∃ i j : Int, vs = [.int i, .int j] ∧ (-(2 ^ 62) ≤ i ∧ i < 2 ^ 62 ∧ -(2 ^ 62) ≤ j ∧ j < 2 ^ 62) ∧ R (Itr i (j - i).toNat) H1
theorem pi_range1 {a : Expr} {ta : TA} {p pos : Pos} (hg : Gl X "range") (hm : X.mg "range" = none) (ha : PA X [a] ta) (hs : starEach [a] X.env = [(false, eval a X.env)] := by rfl) : PI X tg (.Call (.Name "range" p) [a] [] pos) (iRng1 ta) := by
  intro pins s σ H R I h
  refine Call_ (ld_blt I hg hm boot_range (PyProof.Rows.callWith_type1 (thn (ha pos pins s σ H _ I h) fun us s1 ⟨vs, H1, I1, r1, q1⟩ => ?_) hs rfl))
  obtain ⟨j, e, q1, q2, q⟩ := q1
  subst e
  cases r1 with
  | cons r rr =>
    cases rr
    obtain ⟨t, rfl⟩ := r
    exact call_range_1 (range_it I1 (by omega) (by omega) q1 q2 (by simpa using q))
/-! ### for -/
/-- W: the invariant by the turn and a measure; N: what the body is to reach -/
def tFor (wi : TI) (g : TG) (tb : TS) : TS := fun D σ H => wi σ H fun J H1 => ∃ W : Nat → Nat → St → Hp → Prop, (∃ m, W 0 m σ H1) ∧ ∀ i m σ H, W i m σ H →
  (J.stop i H ∧ D.nx σ H) ∨ (J.go i H ∧ ∃ N : St → Hp → Prop, (∀ σ' H', N σ' H' → ∃ m', m' < m ∧ W (i + 1) m' σ' H') ∧ ∀ x H', J.yld i H x H' → g x σ H' fun σ2 H2 => tb { D with nx := N, ct := N, bk := D.nx } σ2 H2)
/-- the records at fp as they stand -/
def pinsAt (fp : List Addr) (h : Heap) : List (Addr × Obj) := fp.filterMap fun b => (h.get? b).map fun o => (b, o)
theorem mem_pinsAt {fp : List Addr} {h : Heap} {b : Addr} {o : Obj} (hb : b ∈ fp) (e : h.get? b = some o) : (b, o) ∈ pinsAt fp h := List.mem_filterMap.mpr ⟨b, hb, by rw [e]; rfl⟩
theorem of_pinsAt {fp : List Addr} {h : Heap} {p : Addr × Obj} (hp : p ∈ pinsAt fp h) : p.1 ∈ fp ∧ h.get? p.1 = some p.2 := by
  obtain ⟨b, hb, e⟩ := List.mem_filterMap.mp hp
  cases q : h.get? b with
  | none => rw [q] at e; cases e
  | some o =>
    rw [q] at e
    have e' : (b, o) = p := Option.some.inj e
    subst e'
    exact ⟨hb, q⟩
theorem Inv.pinned {pins : List (Addr × Obj)} {σ : St} {H : Hp} {s : Shared} {fp : List Addr} (I : Inv X pins σ H s) (hf : ∀ b ∈ fp, FpOk X pins H b) (ho : ∀ b ∈ fp, ∃ o, s.heap.get? b = some o ∧ ∀ v, o.data ≠ .cell v) : Inv X (pins ++ pinsAt fp s.heap) σ H s :=
  I.pins_of fun p hp => (List.mem_append.mp hp).elim (fun z => I.pin p (List.mem_append_right _ z)) fun z => by
    obtain ⟨hb, e⟩ := of_pinsAt z
    obtain ⟨f0, f1, f2, _⟩ := hf p.1 hb
    obtain ⟨o, e', d⟩ := ho p.1 hb
    rw [e] at e'; cases e'
    exact ⟨e, f0, f1, f2, d⟩
theorem Inv.unpinned {pins pl : List (Addr × Obj)} {σ : St} {H : Hp} {s : Shared} (I : Inv X (pins ++ pl) σ H s) : Inv X pins σ H s := I.pins_of fun p hp => I.pin p (List.mem_append_right _ (List.mem_append_left _ hp))
theorem ps_for {iter : Expr} {body : List Stmt} {wi : TI} {g : TG} {tb : TS} {pos : Pos} (hp : PassesOwn (model X.prog X.w) X.A X.env X.xe) (hc : X.calm = true) (hi : PI X tg iter wi) (hg : PG X tg g) (hb : PSs X body tb)
    (hs : ∀ x, foldedSetIterable iter X.env x = pure x := by intro _; rfl) : PS X (.For tg iter body [] pos) (tFor wi g tb) := by
  intro pins s σ H D I h
  refine wpAny_For (thn (hi pins s σ H _ I h) fun v s1 h1 => thn h1 fun itv s2 h2 => ?_) hs
  obtain ⟨it, fp, tn, J, H2, e, I2, T, st2, f2, W, ⟨m0, w0⟩, turn⟩ := h2
  subst e
  -- what stays true of the iterator's objects through the loop
  have stat : ∀ {H' : Hp}, (∀ b ∈ fp, H' b = none) → ∀ b ∈ fp, FpOk X pins H' b := fun hn b hb => ⟨hn b hb, (f2 b hb).2⟩
  refine codeAny_forLoop_any (fun n s' => ∃ i σ' H', Inv X pins σ' H' s' ∧ tn i s'.heap ∧ (∀ b ∈ fp, H' b = none) ∧ W i n σ' H') ?_ m0 ⟨0, σ, H2, I2, st2, fun b hb => (f2 b hb).1, w0⟩
  rintro n s3 ⟨i, σ3, H3, I3, st3, fr3, w3⟩
  rcases turn i n σ3 H3 w3 with ⟨stop, qn⟩ | ⟨go, N, hN, step⟩
  · refine wpAny_passesOwn hp (thn (T.done X rfl rfl rfl hc i pins s3 σ3 H3 X.xe I3 (stat fr3) st3 stop) fun r s4 ⟨hr, I4⟩ => ?_)
    subst hr
    exact wpAny_execs_nil ⟨σ3, H3, I4, qn⟩
  · refine wpAny_passesOwn hp (thn (T.item X rfl rfl rfl hc i pins s3 σ3 H3 X.xe I3 (stat fr3) st3 go) fun r s4 ⟨u, hr, h4⟩ => ?_)
    subst hr
    refine wpAny_passesOwn hp (thn h4 fun _ s5 ⟨x, H5, I5, r5, y5, st5, fr5⟩ => ?_)
    have I5' := I5.pinned (stat fr5) (T.obj _ _ st5)
    refine wpAny_passesOwn hp (thn (hg _ s5 σ3 H5 x u _ I5' r5 (step x H5 y5)) fun _ s6 ⟨σ6, H6, I6, q6⟩ => ?_)
    refine wpAny_passesOwn hp (thn (hb _ s6 σ6 H6 _ I6 q6) fun f s7 q7 => ?_)
    have again : ∀ {σ7 : St} {H7 : Hp}, Inv X (pins ++ pinsAt fp s5.heap) σ7 H7 s7 → N σ7 H7 → ∃ m, m < n ∧ ∃ i σ' H', Inv X pins σ' H' s7 ∧ tn i s7.heap ∧ (∀ b ∈ fp, H' b = none) ∧ W i m σ' H' := fun {σ7 H7} I7 n7 => by
      obtain ⟨m', hm, w7⟩ := hN σ7 H7 n7
      refine ⟨m', hm, i + 1, σ7, H7, I7.unpinned, T.keep _ _ _ st5 fun b hb o e => (I7.pin (b, o) (List.mem_append_right _ (List.mem_append_right _ (mem_pinsAt hb e)))).1, fun b hb => ?_, w7⟩
      obtain ⟨o, e, d⟩ := T.obj _ _ st5 b hb
      exact (I7.pin (b, o) (List.mem_append_right _ (List.mem_append_right _ (mem_pinsAt hb e)))).2.1
    cases f with
    | next => obtain ⟨σ7, H7, I7, n7⟩ := q7; exact again I7 n7
    | cont => obtain ⟨σ7, H7, I7, n7⟩ := q7; exact again I7 n7
    | brk => obtain ⟨σ7, H7, I7, q7⟩ := q7; exact ⟨σ7, H7, I7.unpinned, q7⟩
    | ret v => obtain ⟨x7, σ7, H7, I7, r7, q7⟩ := q7; exact ⟨x7, σ7, H7, I7.unpinned, r7, q7⟩
end

end L2

namespace L2
open PySem PySem.Spec PyProof.Rows

abbrev R2 := V → V → Hp → VK → Prop
/-- a two-place operation on values: f is binaryOp op, inplaceOp op or compareOp op -/
def OpR (X : Cx) (f : Value → Value → Sem Value) (r : R2) : Prop :=
  ∀ (pins : List (Addr × Obj)) (s : Shared) (σ : St) (H : Hp) (x y : V) (v u : Value) (Q : VK), Inv X pins σ H s → RelV x v → RelV y u → r x y H Q →
    wpAny (model X.prog X.w) X.A (f v u) (EP X pins σ Q) X.xe s
/-- a one-place operation -/
def UnR (X : Cx) (f : Value → Sem Value) (r : V → Hp → VK → Prop) : Prop :=
  ∀ (pins : List (Addr × Obj)) (s : Shared) (σ : St) (H : Hp) (x : V) (v : Value) (Q : VK), Inv X pins σ H s → RelV x v → r x H Q →
    wpAny (model X.prog X.w) X.A (f v) (EP X pins σ Q) X.xe s
/-- a call of a value that is known (a builtin, a type) with values -/
def CallR (X : Cx) (f : Value) (r : List V → Hp → VK → Prop) : Prop :=
  ∀ (pins : List (Addr × Obj)) (s : Shared) (σ : St) (H : Hp) (xs : List V) (us : List Value) (Q : VK), Inv X pins σ H s → Vals xs us → r xs H Q →
    wpAny (model X.prog X.w) X.A (call f us) (EP X pins σ Q) X.xe s
/-- a value's truth -/
def TruR (X : Cx) (r : V → Hp → (Bool → Hp → Prop) → Prop) : Prop :=
  ∀ (pins : List (Addr × Obj)) (s : Shared) (σ : St) (H : Hp) (x : V) (v : Value) (Q : Bool → Hp → Prop), Inv X pins σ H s → RelV x v → r x H Q →
    wpAny (model X.prog X.w) X.A (truthy v) (TP X pins σ Q) X.xe s

def tOp (r : R2) (ta tb : TE) : TE := fun σ H Q => ta σ H fun x H1 => tb σ H1 fun y H2 => r x y H2 Q
def tUn (r : V → Hp → VK → Prop) (ta : TE) : TE := fun σ H Q => ta σ H fun x H1 => r x H1 Q
/-- ints in, under C, and a value out -/
def rI (C : Int → Int → Prop) (g : Int → Int → V) : R2 := fun x y H Q => ∃ i j, x = .int i ∧ y = .int j ∧ C i j ∧ Q (g i j) H
def rI0 (g : Int → Int → V) : R2 := fun x y H Q => ∃ i j, x = .int i ∧ y = .int j ∧ Q (g i j) H
def rU (g : Int → V) : V → Hp → VK → Prop := fun x H Q => ∃ i, x = .int i ∧ Q (g i) H

section
variable {X : Cx} {a b c : Expr} {ta tb tc : TE} {pos : Pos}

theorem binT (ha : PE X a ta) (hb : PE X b tb) {pins : List (Addr × Obj)} {s : Shared} {σ : St} {H : Hp} {R : V → V → Hp → Prop} (I : Inv X pins σ H s)
    (h : ta σ H fun x H1 => tb σ H1 fun y H2 => R x y H2) {Q : Value → Shared → Prop} {f : Value → Value → Sem Value}
    (hf : ∀ v u s2 x y H2, Inv X pins σ H2 s2 → RelV x v → RelV y u → R x y H2 → wpAny (model X.prog X.w) X.A (f v u) Q X.xe s2) :
    wpAny (model X.prog X.w) X.A (eval a X.env) (fun v s₁ => wpAny (model X.prog X.w) X.A (eval b X.env) (fun u s₂ => wpAny (model X.prog X.w) X.A (f v u) Q X.xe s₂) X.xe s₁) X.xe s := by
  refine thn (ha pins s σ H _ I h) fun v s1 ⟨x, H1, I1, r1, q1⟩ => ?_
  refine thn (hb pins s1 σ H1 _ I1 q1) fun u s2 ⟨y, H2, I2, r2, q2⟩ => ?_
  exact hf v u s2 x y H2 I2 r1 r2 q2

theorem pe_op {op : Operator} {r : R2} (ho : OpR X (binaryOp op) r) (ha : PE X a ta) (hb : PE X b tb) : PE X (.BinOp a op b pos) (tOp r ta tb) := by
  intro pins s σ H Q I h
  exact wpAny_BinOp (binT ha hb I h fun v u s2 x y H2 I2 rx ry q => ho pins s2 σ H2 x y v u Q I2 rx ry q)
theorem pe_un {op : UnaryOp} {r : V → Hp → VK → Prop} (ho : UnR X (unaryOp op) r) (ha : PE X a ta) : PE X (.UnaryOp op a pos) (tUn r ta) := by
  intro pins s σ H Q I h
  exact UnaryOp_ (thn (ha pins s σ H _ I h) fun v s1 ⟨x, H1, I1, r1, q1⟩ => ho pins s1 σ H1 x v Q I1 r1 q1)
/-! ### ints -/
theorem opI {f : Value → Value → Sem Value} {C : Int → Int → Prop} {g : Int → Int → Int}
    (rule : ∀ (i j : Int) (t u : Tok) (s : Shared) (Q : Value → Shared → Prop) (E : Value → Shared → Prop), C i j → Q (.int (g i j) s.toks) { s with toks := s.toks + 1 } → wpAny (model X.prog X.w) X.A (f (.int i t) (.int j u)) Q E s) :
    OpR X f (rI C fun i j => .int (g i j)) := by
  intro pins s σ H x y v u Q I rx ry h
  obtain ⟨i, j, rfl, rfl, hc, q⟩ := h
  obtain ⟨t, rfl⟩ := rx
  obtain ⟨t', rfl⟩ := ry
  exact rule i j t t' s _ _ hc ⟨.int (g i j), H, I.tok _, ⟨_, rfl⟩, q⟩
theorem opI0 {f : Value → Value → Sem Value} {g : Int → Int → Int}
    (rule : ∀ (i j : Int) (t u : Tok) (s : Shared) (Q : Value → Shared → Prop) (E : Value → Shared → Prop), Q (.int (g i j) s.toks) { s with toks := s.toks + 1 } → wpAny (model X.prog X.w) X.A (f (.int i t) (.int j u)) Q E s) :
    OpR X f (rI0 fun i j => .int (g i j)) := by
  intro pins s σ H x y v u Q I rx ry h
  obtain ⟨i, j, rfl, rfl, q⟩ := h
  obtain ⟨t, rfl⟩ := rx
  obtain ⟨t', rfl⟩ := ry
  exact rule i j t t' s _ _ ⟨.int (g i j), H, I.tok _, ⟨_, rfl⟩, q⟩
theorem opB0 {f : Value → Value → Sem Value} {g : Int → Int → Bool}
    (rule : ∀ (i j : Int) (t u : Tok) (s : Shared) (Q : Value → Shared → Prop) (E : Value → Shared → Prop), Q (.bool (g i j)) s → wpAny (model X.prog X.w) X.A (f (.int i t) (.int j u)) Q E s) :
    OpR X f (rI0 fun i j => .bl (g i j)) := by
  intro pins s σ H x y v u Q I rx ry h
  obtain ⟨i, j, rfl, rfl, q⟩ := h
  obtain ⟨t, rfl⟩ := rx
  obtain ⟨t', rfl⟩ := ry
  exact rule i j t t' s _ _ ⟨.bl (g i j), H, I, rfl, q⟩

def CDiv (i j : Int) : Prop := 0 < j ∧ j < 1073741824
def CDivN (i j : Int) : Prop := j ≠ 0 ∧ j.natAbs < 1073741824
def CPow (i j : Int) : Prop := 0 ≤ j ∧ j ≤ 1000000 ∧ i.natAbs < 2 ^ 64
def CMul (i j : Int) : Prop := (-(2 ^ 64) < i ∧ i < 2 ^ 64) ∨ (-(2 ^ 64) < j ∧ j < 2 ^ 64)
theorem CMul.ok {i j : Int} (h : CMul i j) : IntMulOk i j := by
  rcases h with ⟨h1, h2⟩ | ⟨h1, h2⟩
  · exact .of_left (intBits_le_64 h1 h2)
  · exact .of_right (intBits_le_64 h1 h2)
theorem op_add : OpR X (binaryOp .Add) (rI0 fun i j => .int (i + j)) := opI0 fun _ _ _ _ _ _ _ q => add_int q
theorem op_sub : OpR X (binaryOp .Sub) (rI0 fun i j => .int (i - j)) := opI0 fun _ _ _ _ _ _ _ q => sub_int q
theorem op_modN : OpR X (binaryOp .Mod) (rI (fun _ j => j ≠ 0) fun i j => .int (i.fmod j)) := opI fun _ _ _ _ _ _ _ hc q => mod_int' hc q
theorem op_pow : OpR X (binaryOp .Pow) (rI CPow fun i j => .int (i ^ j.toNat)) := opI fun _ _ _ _ _ _ _ hc q => pow_int_small hc.1 hc.2.1 hc.2.2 q
theorem op_or : OpR X (binaryOp .BitOr) (rI0 fun i j => .int (Builtin.bitOr i j)) := opI0 fun _ _ _ _ _ _ _ q => or_int q
theorem unI {f : Value → Sem Value} {g : Int → Int}
    (rule : ∀ (i : Int) (t : Tok) (s : Shared) (Q : Value → Shared → Prop) (E : Value → Shared → Prop), Q (.int (g i) s.toks) { s with toks := s.toks + 1 } → wpAny (model X.prog X.w) X.A (f (.int i t)) Q E s) :
    UnR X f (rU fun i => .int (g i)) := by
  intro pins s σ H x v Q I rx h
  obtain ⟨i, rfl, q⟩ := h
  obtain ⟨t, rfl⟩ := rx
  exact rule i t s _ _ ⟨.int (g i), H, I.tok _, ⟨_, rfl⟩, q⟩
theorem un_neg : UnR X (unaryOp .USub) (rU fun i => .int (-i)) := unI fun _ _ _ _ _ q => neg_int q
end

/-! ### comparisons -/
/-- the scalars that == tells apart as data does -/
def scal : V → V → Bool
  | .non, .non => true | .non, .int _ => true | .int _, .non => true | .non, .bl _ => true | .bl _, .non => true | .non, .str _ => true | .str _, .non => true
  | .int _, .int _ => true | .bl _, .bl _ => true | .str _, .str _ => true | .byt _, .byt _ => true
  | .int _, .str _ => true | .str _, .int _ => true | .bl _, .str _ => true | .str _, .bl _ => true
  | _, _ => false
def rEq : R2 := fun x y H Q => scal x y = true ∧ Q (.bl (decide (x = y))) H
def rNe : R2 := fun x y H Q => scal x y = true ∧ Q (.bl (!decide (x = y))) H

theorem dec_int {i j : Int} : decide (V.int i = V.int j) = (i == j) := by
  rw [Bool.eq_iff_iff]
  simp
theorem dec_bl {i j : Bool} : decide (V.bl i = V.bl j) = (i == j) := by
  rw [Bool.eq_iff_iff]
  simp
theorem dec_str {i j : Str} : decide (V.str i = V.str j) = (i == j) := by
  rw [Bool.eq_iff_iff]
  simp
theorem dec_byt {i j : Array UInt8} : decide (V.byt i = V.byt j) = (i.toList == j.toList) := by
  rw [Bool.eq_iff_iff]
  cases i
  cases j
  simp

section
variable {X : Cx} {a b c : Expr} {ta tb tc : TE} {pos : Pos}
theorem fin_bl {pins : List (Addr × Obj)} {σ : St} {H : Hp} {s : Shared} {Q : VK} {k k' : Bool} (I : Inv X pins σ H s) (q : Q (.bl k) H) (e : k = k') : EP X pins σ Q (.bool k') s := by
  subst e
  exact ⟨.bl k, H, I, rfl, q⟩
theorem op_eq : OpR X (compareOp .Eq) rEq := by
  intro pins s σ H x y v u Q I rx ry h
  obtain ⟨hs, q⟩ := h
  cases x with
  | non =>
    cases rx
    cases y with
    | non => cases ry; exact PySem.EqNone.eq_none_none (fin_bl I q (by simp))
    | bl j => cases ry; exact PySem.EqNone.eq_none_bool (fin_bl I q (by simp))
    | int j => obtain ⟨t', rfl⟩ := ry; exact PySem.EqNone.eq_none_int (fin_bl I q (by simp))
    | str j => obtain ⟨t', rfl⟩ := ry; exact PySem.EqNone.eq_none_str (fin_bl I q (by simp))
    | _ => exact absurd (show false = true from hs) Bool.false_ne_true
  | bl i =>
    cases rx
    cases y with
    | non => cases ry; exact PySem.EqNone.eq_bool_none (fin_bl I q (by simp))
    | bl j => cases ry; exact eq_bool (fin_bl I q dec_bl)
    | str j => obtain ⟨t', rfl⟩ := ry; exact PySem.EqMixed.eq_bool_str (fin_bl I q (by simp))
    | _ => exact absurd (show false = true from hs) Bool.false_ne_true
  | int i =>
    obtain ⟨t, rfl⟩ := rx
    cases y with
    | non => cases ry; exact PySem.EqNone.eq_int_none (fin_bl I q (by simp))
    | int j => obtain ⟨t', rfl⟩ := ry; exact eq_int (fin_bl I q dec_int)
    | str j => obtain ⟨t', rfl⟩ := ry; exact PySem.EqMixed.eq_int_str (fin_bl I q (by simp))
    | _ => exact absurd (show false = true from hs) Bool.false_ne_true
  | str i =>
    obtain ⟨t, rfl⟩ := rx
    cases y with
    | non => cases ry; exact PySem.EqNone.eq_str_none (fin_bl I q (by simp))
    | bl j => cases ry; exact PySem.EqMixed.eq_str_bool (fin_bl I q (by simp))
    | int j => obtain ⟨t', rfl⟩ := ry; exact PySem.EqMixed.eq_str_int (fin_bl I q (by simp))
    | str j => obtain ⟨t', rfl⟩ := ry; exact eq_str (fin_bl I q dec_str)
    | _ => exact absurd (show false = true from hs) Bool.false_ne_true
  | byt i =>
    obtain ⟨t, rfl⟩ := rx
    cases y with
    | byt j => obtain ⟨t', rfl⟩ := ry; exact PySem.W.eq_bytes (fin_bl I q dec_byt)
    | _ => exact absurd (show false = true from hs) Bool.false_ne_true
  | _ => cases y <;> exact absurd (show false = true from hs) Bool.false_ne_true
theorem op_ne : OpR X (compareOp .NotEq) rNe := by
  intro pins s σ H x y v u Q I rx ry h
  obtain ⟨hs, q⟩ := h
  cases x with
  | non =>
    cases rx
    cases y with
    | non => cases ry; exact PySem.EqNone.ne_none_none (fin_bl I q (by simp))
    | bl j => cases ry; exact PySem.EqNone.ne_none_bool (fin_bl I q (by simp))
    | int j => obtain ⟨t', rfl⟩ := ry; exact PySem.EqNone.ne_none_int (fin_bl I q (by simp))
    | str j => obtain ⟨t', rfl⟩ := ry; exact PySem.EqNone.ne_none_str (fin_bl I q (by simp))
    | _ => exact absurd (show false = true from hs) Bool.false_ne_true
  | bl i =>
    cases rx
    cases y with
    | non => cases ry; exact PySem.EqNone.ne_bool_none (fin_bl I q (by simp))
    | bl j => cases ry; exact ne_bool (fin_bl I q (congrArg not dec_bl))
    | str j => obtain ⟨t', rfl⟩ := ry; exact PySem.EqMixed.ne_bool_str (fin_bl I q (by simp))
    | _ => exact absurd (show false = true from hs) Bool.false_ne_true
  | int i =>
    obtain ⟨t, rfl⟩ := rx
    cases y with
    | non => cases ry; exact PySem.EqNone.ne_int_none (fin_bl I q (by simp))
    | int j => obtain ⟨t', rfl⟩ := ry; exact ne_int (fin_bl I q (congrArg not dec_int))
    | str j => obtain ⟨t', rfl⟩ := ry; exact PySem.EqMixed.ne_int_str (fin_bl I q (by simp))
    | _ => exact absurd (show false = true from hs) Bool.false_ne_true
  | str i =>
    obtain ⟨t, rfl⟩ := rx
    cases y with
    | non => cases ry; exact PySem.EqNone.ne_str_none (fin_bl I q (by simp))
    | bl j => cases ry; exact PySem.EqMixed.ne_str_bool (fin_bl I q (by simp))
    | int j => obtain ⟨t', rfl⟩ := ry; exact PySem.EqMixed.ne_str_int (fin_bl I q (by simp))
    | str j => obtain ⟨t', rfl⟩ := ry; exact ne_str (fin_bl I q (congrArg not dec_str))
    | _ => exact absurd (show false = true from hs) Bool.false_ne_true
  | byt i =>
    obtain ⟨t, rfl⟩ := rx
    cases y with
    | byt j => obtain ⟨t', rfl⟩ := ry; exact PySem.W.ne_bytes (fin_bl I q (congrArg not dec_byt))
    | _ => exact absurd (show false = true from hs) Bool.false_ne_true
  | _ => cases y <;> exact absurd (show false = true from hs) Bool.false_ne_true

theorem op_lt : OpR X (compareOp .Lt) (rI0 fun i j => .bl (decide (i < j))) := opB0 fun _ _ _ _ _ _ _ q => lt_int q
theorem op_le : OpR X (compareOp .LtE) (rI0 fun i j => .bl (decide (i ≤ j))) := opB0 fun _ _ _ _ _ _ _ q => le_int q
theorem op_ge : OpR X (compareOp .GtE) (rI0 fun i j => .bl (decide (j ≤ i))) := opB0 fun _ _ _ _ _ _ _ q => ge_int q
/-- is, is not of two objects that are tracked lists or instances -/
def isObj : HO → Bool
  | .lst _ => true
  | .ins _ _ _ => true
  | _ => false
/-- two rules for one operation: by cases -/
theorem OpR.or {f : Value → Value → Sem Value} {r r' : R2} (h : OpR X f r) (h' : OpR X f r') : OpR X f (fun x y H Q => r x y H Q ∨ r' x y H Q) := by
  intro pins s σ H x y v u Q I rx ry q
  rcases q with q | q
  · exact h pins s σ H x y v u Q I rx ry q
  · exact h' pins s σ H x y v u Q I rx ry q

theorem nomark (b : Expr) {op : CmpOp} (h : op ≠ .In := by decide) (h2 : op ≠ .NotIn := by decide) : behindInMarks op b = false := by
  have e1 : (op == CmpOp.In) = false := by cases op <;> first | rfl | exact absurd rfl h
  have e2 : (op == CmpOp.NotIn) = false := by cases op <;> first | rfl | exact absurd rfl h2
  cases b <;> simp [behindInMarks, e1, e2]
/-- a comparison as a value; hm: nomark b, or (for in, not in) by with_unfolding_all rfl -/
theorem pe_cmpR {op : CmpOp} {r : R2} (ho : OpR X (compareOp op) r) (ha : PE X a ta) (hb : PE X b tb) (hm : behindInMarks op b = false) : PE X (.Compare a [op] [b] pos) (tOp r ta tb) := by
  intro pins s σ H Q I h
  exact wpAny_Compare1 (binT ha hb I h fun v u s2 x y H2 I2 rx ry q => ho pins s2 σ H2 x y v u Q I2 rx ry q) hm
/-- a reading of a value as a test -/
def tTest (t : TE) : TT := fun σ H Q => t σ H fun x H' => ∃ k, x = .bl k ∧ Q k H'
theorem pt_cmpR {op : CmpOp} {r : R2} (ho : OpR X (compareOp op) r) (ha : PE X a ta) (hb : PE X b tb) (hm : behindInMarks op b = false) : PT X (.Compare a [op] [b] pos) (tTest (tOp r ta tb)) := by
  intro pins s σ H Q I h
  refine wpAny_isTrue_Compare1 (thn (ha pins s σ H _ I h) fun v s1 ⟨x, H1, I1, r1, q1⟩ => thn (hb pins s1 σ H1 _ I1 q1) fun u s2 ⟨y, H2, I2, r2, q2⟩ =>
    thn (ho pins s2 σ H2 x y v u _ I2 r1 r2 q2) fun c s3 ⟨z, H3, I3, r3, k, e, q3⟩ => ?_) hm
  subst e
  cases r3
  exact wpAny_truthy_bool ⟨H3, I3, q3⟩
/-- a op1 b op2 c -/
def tChain (r r' : R2) (ta tb tc : TE) : TE := fun σ H Q => ta σ H fun x H1 => tb σ H1 fun y H2 => r x y H2 fun z H3 => ∃ k, z = .bl k ∧
  (if k = true then tc σ H3 fun w' H4 => r' y w' H4 Q else Q (.bl false) H3)
theorem pt_chain {op op' : CmpOp} {r r' : R2} (ho : OpR X (compareOp op) r) (ho' : OpR X (compareOp op') r') (ha : PE X a ta) (hb : PE X b tb) (hc : PE X c tc)
    (hm : lastMarks [op, op'] [b, c] = false := by with_unfolding_all rfl) : PT X (.Compare a [op, op'] [b, c] pos) (tTest (tChain r r' ta tb tc)) := by
  intro pins s σ H Q I h
  refine isTrue_chain (thn (ha pins s σ H _ I h) fun v s1 ⟨x, H1, I1, r1, q1⟩ => test_link (thn (hb pins s1 σ H1 _ I1 q1) fun u s2 ⟨y, H2, I2, r2, q2⟩ =>
    thn (ho pins s2 σ H2 x y v u _ I2 r1 r2 q2) fun d s3 ⟨z, H3, I3, r3, k, e, q3⟩ => ?_)) hm
  subst e
  cases r3
  refine wpAny_truthy_bool ?_
  cases k with
  | false =>
    obtain ⟨k', e', q'⟩ := q3
    cases e'
    exact ite_ff ⟨H3, I3, q'⟩
  | true =>
    refine ite_tt (test_last (thn (hc pins s3 σ H3 _ I3 q3) fun w' s4 ⟨z', H4, I4, r4, q4⟩ => thn (ho' pins s4 σ H4 y z' u w' _ I4 r2 r4 q4) fun d' s5 ⟨z2, H5, I5, r5, k2, e2, q5⟩ => ?_))
    subst e2
    cases r5
    exact wpAny_truthy_bool ⟨H5, I5, q5⟩

/-! ### truth -/
/-- a value's truth by the abstract heap -/
def TruV (K : PySem.W.Frag) (x : V) (H : Hp) (k : Bool) : Prop :=
  match x with
  | .non => k = false
  | .bl b => k = b
  | .int i => k = (i != 0)
  | .str y => y.length ≤ sizeLine ∧ k = ((y.length : Int) != 0)
  | .byt y => y.size ≤ sizeLine ∧ k = ((y.size : Int) != 0)
  | .ref p => (∃ xs, SqL K H p xs ∧ k = !xs.isEmpty) ∨ (∃ xs, SqT K H p xs ∧ k = !xs.isEmpty) ∨ ∃ kvs, H p = some (.dK kvs) ∧ k = !kvs.isEmpty
  | _ => False
theorem isEmpty_kv {κ : Type} {kvs : List (κ × V)} {vs : List (κ × Value)} (r : KV kvs vs) : (!vs.isEmpty) = !kvs.isEmpty := by
  cases r <;> rfl
theorem isEmpty_of {xs : List V} {its : List Value} (r : Vals xs its) : (!its.toArray.isEmpty) = !xs.isEmpty := by
  cases r <;> simp
theorem line63 : (sizeLine : Nat) < 2 ^ 63 := by rw [sizeLine_eq]; decide
theorem tru_ok : TruR X (fun x H Q => ∃ k, TruV X.K x H k ∧ Q k H) := by
  intro pins s σ H x v Q I rx h
  obtain ⟨k, e, q⟩ := h
  have hl := line63
  have hs : sizeLine = 16777216 := sizeLine_eq
  cases x with
  | non =>
    cases rx
    have e' : k = false := e
    subst e'
    exact truthy_none ⟨H, I, q⟩
  | bl b =>
    cases rx
    have e' : k = b := e
    subst e'
    exact wpAny_truthy_bool ⟨H, I, q⟩
  | int i =>
    obtain ⟨t, rfl⟩ := rx
    have e' : k = (i != 0) := e
    subst e'
    exact PySem.P.truthy_int ⟨H, I, q⟩
  | str y =>
    obtain ⟨t, rfl⟩ := rx
    obtain ⟨hy, e'⟩ : y.length ≤ sizeLine ∧ k = ((y.length : Int) != 0) := e
    subst e'
    exact PySem.P.truthy_str (by omega) ⟨H, I.tok _, q⟩
  | byt y =>
    obtain ⟨t, rfl⟩ := rx
    obtain ⟨hy, e'⟩ : y.size ≤ sizeLine ∧ k = ((y.size : Int) != 0) := e
    subst e'
    exact PySem.W.truthy_bytes (by omega) ⟨H, I.tok _, q⟩
  | ref p =>
    cases rx
    have e' : (∃ xs, SqL X.K H p xs ∧ k = !xs.isEmpty) ∨ (∃ xs, SqT X.K H p xs ∧ k = !xs.isEmpty) ∨ ∃ kvs, H p = some (.dK kvs) ∧ k = !kvs.isEmpty := e
    rcases e' with ⟨xs, hx, e'⟩ | ⟨xs, hx, e'⟩ | ⟨kvs, hx, e'⟩
    · subst e'
      obtain ⟨its, r, pl, hz⟩ := I.list hx
      have hlen := r.length
      exact wpAny_truthy_list pl.isList (by simp only [List.size_toArray]; omega) ⟨H, I.tok _, by rw [isEmpty_of r]; exact q⟩
    · subst e'
      obtain ⟨its, r, pl, hz⟩ := I.tuple hx
      have hlen := r.length
      exact truthy_tuple pl (by simp only [List.size_toArray]; omega) ⟨H, I.tok _, by rw [isEmpty_of r]; exact q⟩
    · subst e'
      obtain ⟨hz, hS, vs, r, m⟩ : kvs.length ≤ sizeLine ∧ (p == sysModules) = false ∧ ∃ vs, KV kvs vs ∧ s.heap.DictOf (mixKind X.prog X.w) p vs := I.hok p _ hx
      have hlen : kvs.length = vs.length := Paired.length r
      exact wpAny_truthy_dict hS m (by omega) ⟨H, I.tok _, by rw [isEmpty_kv r]; exact q⟩
  | _ => exact (show False from e).elim
theorem op_add_str : OpR X (binaryOp .Add) (fun x y H Q => ∃ i j, x = .str i ∧ y = .str j ∧ i.length + j.length ≤ sizeLine ∧ Q (.str (i ++ j)) H) := by
  intro pins s σ H x y v u Q I rx ry h
  obtain ⟨i, j, rfl, rfl, hz, q⟩ := h
  obtain ⟨t, rfl⟩ := rx
  obtain ⟨t', rfl⟩ := ry
  exact add_str (fun t' tk => ⟨.str (i ++ j), H, I.tok _, ⟨_, rfl⟩, q⟩) hz
def PlainIxT (b : Expr) : Prop := ∀ o i, subscripted b false o i = operate [o, i] (getItem o i)
/-! ### scalar builtins, by CallR -/
theorem vals1 {x : V} {us : List Value} (r : Vals [x] us) : ∃ u, us = [u] ∧ RelV x u := by
  cases r with
  | cons r1 r2 => cases r2; exact ⟨_, rfl, r1⟩
theorem vals2 {x y : V} {us : List Value} (r : Vals [x, y] us) : ∃ u w', us = [u, w'] ∧ RelV x u ∧ RelV y w' := by
  cases r with
  | cons r1 r2 =>
    cases r2 with
    | cons r3 r4 => cases r4; exact ⟨_, _, rfl, r1, r3⟩
theorem call_str_int : CallR X (.type "str") (fun xs H Q => ∃ i, xs = [.int i] ∧ i.natAbs.log2 < 1920 ∧ Q (.str (toString i)) H) := by
  intro pins s σ H xs us Q I r h
  obtain ⟨i, rfl, hz, q⟩ := h
  obtain ⟨u, rfl, t, rfl⟩ := vals1 r
  exact PySem.P.str_of_int hz ⟨.str _, H, I.tok _, ⟨_, rfl⟩, q⟩
/-- len of a str, a bytes, a list, a tuple -/
def LenV (K : PySem.W.Frag) (x : V) (H : Hp) (n : Nat) : Prop :=
  match x with
  | .str y => y.length ≤ sizeLine ∧ n = y.length
  | .byt y => y.size ≤ sizeLine ∧ n = y.size
  | .ref p => (∃ xs, SqL K H p xs ∧ n = xs.length) ∨ ∃ xs, SqT K H p xs ∧ n = xs.length
  | _ => False
theorem call_len : CallR X (.builtin "len") (fun xs H Q => ∃ x n, xs = [x] ∧ LenV X.K x H n ∧ Q (.int n) H) := by
  intro pins s σ H xs us Q I r h
  obtain ⟨x, n, rfl, e, q⟩ := h
  obtain ⟨u, rfl, rx⟩ := vals1 r
  have hl := line63
  have hs : sizeLine = 16777216 := sizeLine_eq
  cases x with
  | str y =>
    obtain ⟨t, rfl⟩ := rx
    obtain ⟨hy, e'⟩ : y.length ≤ sizeLine ∧ n = y.length := e
    subst e'
    exact len_str (by omega) ⟨.int _, H, I.tok _, ⟨_, rfl⟩, q⟩
  | byt y =>
    obtain ⟨t, rfl⟩ := rx
    obtain ⟨hy, e'⟩ : y.size ≤ sizeLine ∧ n = y.size := e
    subst e'
    exact PySem.W.len_bytes (by omega) ⟨.int _, H, I.tok _, ⟨_, rfl⟩, q⟩
  | ref p =>
    cases rx
    have e' : (∃ xs, SqL X.K H p xs ∧ n = xs.length) ∨ ∃ xs, SqT X.K H p xs ∧ n = xs.length := e
    rcases e' with ⟨xs, hx, e'⟩ | ⟨xs, hx, e'⟩
    · subst e'
      obtain ⟨its, r', pl, hz⟩ := I.list hx
      have hlen := r'.length
      exact Calls.call_len_list pl.isList (by simp only [List.size_toArray]; omega) ⟨.int xs.length, H, I.tok _, ⟨_, by simp only [List.size_toArray]; rw [hlen]⟩, q⟩
    · subst e'
      obtain ⟨its, r', pl, hz⟩ := I.tuple hx
      have hlen := r'.length
      exact len_tuple pl (by simp only [List.size_toArray]; omega) ⟨.int xs.length, H, I.tok _, ⟨_, by simp only [List.size_toArray]; rw [hlen]⟩, q⟩
  | _ => exact (show False from e).elim
end
end L2

namespace L2
open PySem PySem.Spec PyProof.Rows

/-! ### an instance, its attributes a map -/
structure ObjM (h : Heap) (x dx C : Addr) (mA : Str → Option Value) : Prop where
  obj : h.get? x = some (PySem.W.instObj C dx)
  ns : h.Ns1 dx mA
  ne : dx ≠ x

theorem lookIn_ns {h : Heap} {dx : Addr} {mA : Str → Option Value} (n : h.Ns1 dx mA) : ∃ od, h.get? dx = some od ∧ ∀ name, PySem.W.lookIn name od = some (mA name) := by
  obtain ⟨o, es, ep, ho, hd, hk, _, hm⟩ := n
  refine ⟨o, ho, fun name => ?_⟩
  have e := hm name
  unfold nsFind findBy at e
  rw [← Array.find?_toList] at e
  unfold PySem.W.lookIn
  rw [hd]
  dsimp only
  split
  · rename_i y q
    rw [q] at e
    exact congrArg some e
  · rename_i q
    rw [q] at e
    have a : es.toList.any (·.refKey) = false := by
      rw [List.any_eq_false]
      intro y hy
      obtain ⟨z, t, hkey⟩ := hk y (Array.mem_toList_iff.mp hy)
      simp [DictEntry.refKey, hkey]
    have a' : ¬ es.toList.any (·.refKey) = true := by rw [a]; exact Bool.false_ne_true
    rw [if_neg a']
    exact congrArg some e

theorem ObjM.look {h : Heap} {x dx C : Addr} {mA : Str → Option Value} (I : ObjM h x dx C mA) : ∃ od, PySem.W.InstAt h x (PySem.W.instObj C dx) C (some od) ∧ ∀ name, PySem.W.lookIn name od = some (mA name) :=
  let ⟨od, ho, hl⟩ := lookIn_ns I.ns
  ⟨od, ⟨I.obj, rfl, rfl, ho⟩, hl⟩

section
variable {prog : Program} {w : World} {A : Around} {E : Value → Shared → Prop} {s : Shared} {K : PySem.W.Frag} {x dx C f : Addr} {mA : Str → Option Value} {name : Str} {v : Value}

end

/-! ### the attributes as a list of pairs -/
def putF (f : Str) (v : V) : List (Str × V) → List (Str × V)
  | [] => [(f, v)]
  | (g, x) :: r => if g = f then (g, v) :: r else (g, x) :: putF f v r
theorem RelO.some_of {v : V} {o : Option Value} (r : RelO (some v) o) : ∃ u, o = some u ∧ RelV v u := by
  cases o with
  | none => exact (show False from r).elim
  | some u => exact ⟨u, rfl, r⟩
section
variable {P : Program} {w : World} {H H' : Hp} {h h' : Heap} {a C dx : Addr} {fs fs' : List (Str × V)}
end

/-! ### what of the text a class must have -/
structure Cls (K : PySem.W.Frag) (C : Addr) : Prop where
  pg : PySem.W.plainGet K C Str.empty = true
  hd : PySem.W.hasDictIn K C = true
  po : PySem.W.plainOver K C = true
  sa : PySem.W.findIn K (.ref C) "__setattr__" = some (some (.builtin "object.__setattr__"))
theorem Cls.get {K : PySem.W.Frag} {C : Addr} (c : Cls K C) (f : Str) : PySem.W.plainGet K C f = true := c.pg
/-- no class of it has the name -/
def NoAttr (K : PySem.W.Frag) (C : Addr) (f : Str) : Prop := PySem.W.findIn K (.ref C) f = some none
/-- a constant of the class -/
structure Con (K : PySem.W.Frag) (C : Addr) (f : Str) (v : V) (u : Value) : Prop where
  at_ : PySem.W.findIn K (.ref C) f = some (some u)
  rel : RelV v u
  get : PySem.W.specialIn K u "__get__" = some none
  cp : PySem.W.copiedNames.contains f = false
/-- a method: a plain def of the class or of one above it -/
structure Meth (K : PySem.W.Frag) (C : Addr) (m : Str) (f : Addr) : Prop where
  at_ : PySem.W.findIn K (.ref C) m = some (some (.ref f))
  fn : PySem.W.isFn K (.ref f) = true
  kp : PySem.W.keepIn K (.ref f) = true

section
variable {X : Cx} {pins : List (Addr × Obj)} {σ : St} {H : Hp} {s : Shared} {a C dx : Addr} {fs : List (Str × V)} {f : Str} {v : V} {A : Around} {E : Value → Shared → Prop}

/-- a new instance, tracked, without attributes -/
theorem Inv.made (I : Inv X pins σ H s) : Inv X pins σ (upd (upd H s.heap.objs.size (.own (s.heap.objs.size + 1))) (s.heap.objs.size + 1) (.ins C s.heap.objs.size []))
    { s with heap := (s.heap.push PySem.W.emptyDict).push (PySem.W.instObj C s.heap.objs.size) } := by
  have e1 : (s.heap.push PySem.W.emptyDict).get? s.heap.objs.size = some PySem.W.emptyDict := Heap.get?_push_size s.heap rfl
  have e2 : ((s.heap.push PySem.W.emptyDict).push (PySem.W.instObj C s.heap.objs.size)).get? (s.heap.objs.size + 1) = some (PySem.W.instObj C s.heap.objs.size) := by
    have := Heap.get?_push_size (s.heap.push PySem.W.emptyDict) (o := PySem.W.instObj C s.heap.objs.size) rfl
    rwa [Heap.size_push] at this
  have e3 : (s.heap.push PySem.W.emptyDict).Ns s.heap.objs.size (fun _ => none) := ⟨PySem.W.emptyDict, #[], _, e1, rfl, (fun e he => absurd he (by simp)), fun _ => rfl⟩
  have I1 := I.laid (a := s.heap.objs.size) (o := .own (s.heap.objs.size + 1)) (h' := s.heap.push PySem.W.emptyDict) (t' := s.toks) (fun b u q => Heap.get?_push_of_some _ q) (Nat.le_refl _) ⟨_, e1⟩
  refine I1.laid (a := s.heap.objs.size + 1) (o := .ins C s.heap.objs.size []) (t' := s.toks) (fun b u q => Heap.get?_push_of_some _ q) (Nat.le_of_eq (Heap.size_push _ _)) ?_
  have ne : s.heap.objs.size ≠ s.heap.objs.size + 1 := Nat.ne_of_lt (Nat.lt_succ_self _)
  refine ⟨by rw [upd_ne ne, upd_same], Nat.zero_le _, ne, e2, fun _ => none, (Heap.Ns1.of_empty e3).at fun o q => Heap.get?_push_of_some _ q, fun _ => True.intro, fun y hy => absurd rfl hy⟩

end

/-! ### readings and rules -/
/-- e.f, an attribute of the instance -/
def tFld (K : PySem.W.Frag) (ta : TE) (f : Str) : TE := fun σ H Q => ta σ H fun x H1 => ∃ a C dx fs v, x = .ref a ∧ H1 a = some (.ins C dx fs) ∧ Cls K C ∧ NoAttr K C f ∧ fs.lookup f = some v ∧ Q v H1
/-- e.f, a constant of the class -/
def tCon (K : PySem.W.Frag) (ta : TE) (f : Str) : TE := fun σ H Q => ta σ H fun x H1 => ∃ a C dx fs v u, x = .ref a ∧ H1 a = some (.ins C dx fs) ∧ Cls K C ∧ Con K C f v u ∧ fs.lookup f = none ∧ Q v H1
/-- e.f = value -/
def sFld (K : PySem.W.Frag) (ta tv : TE) (f : Str) : TS := fun D σ H => tv σ H fun y H1 => ta σ H1 fun x H2 => ∃ a C dx fs, x = .ref a ∧ H2 a = some (.ins C dx fs) ∧ Cls K C ∧ NoAttr K C f ∧ fs.length < 1000 ∧
  D.nx σ (upd H2 a (.ins C dx (putF f y fs)))
/-- an augmented operator on two values -/
def InOp (X : Cx) (op : Operator) (rd : V → V → Hp → VK → Prop) : Prop :=
  ∀ (pins : List (Addr × Obj)) (s : Shared) (σ : St) (H : Hp) (x y : V) (u v : Value) (Q : VK), Inv X pins σ H s → RelV x u → RelV y v → rd x y H Q → wpAny (model X.prog X.w) X.A (inplaceOp op u v) (EP X pins σ Q) X.xe s
/-- e.f op= value -/
def sFldAug (K : PySem.W.Frag) (ta tv : TE) (rd : V → V → Hp → VK → Prop) (f : Str) : TS := fun D σ H => ta σ H fun x H1 => ∃ a C dx fs v, x = .ref a ∧ H1 a = some (.ins C dx fs) ∧ Cls K C ∧ NoAttr K C f ∧ fs.lookup f = some v ∧
  tv σ H1 fun y H2 => rd v y H2 fun z H3 => ∃ dx' fs', H3 a = some (.ins C dx' fs') ∧ fs'.length < 1000 ∧ D.nx σ (upd H3 a (.ins C dx' (putF f z fs')))

section
variable {X : Cx} {o e value : Expr} {f : Str} {pos pos' tpos : Pos} {ta tv : TE}
def rAdd : V → V → Hp → VK → Prop := fun x y H Q => ∃ i j, x = .int i ∧ y = .int j ∧ Q (.int (i + j)) H
def rSub : V → V → Hp → VK → Prop := fun x y H Q => ∃ i j, x = .int i ∧ y = .int j ∧ Q (.int (i - j)) H
end

/-! ### isinstance -/
section
variable {X : Cx} {pins : List (Addr × Obj)} {σ : St} {H : Hp} {s : Shared} {A : Around} {E : Value → Shared → Prop} {Q : Value → Shared → Prop} {c : Value} {b : Bool}
/-- the type of a value, as the fragment's deciders take it; for an instance its class -/
inductive TyOf (K : PySem.W.Frag) (H : Hp) : V → Value → Prop where
  | non : TyOf K H .non (.type "NoneType")
  | bl (x : Bool) : TyOf K H (.bl x) (.type "bool")
  | int (i : Int) : TyOf K H (.int i) (.type "int")
  | str (x : Str) : TyOf K H (.str x) (.type "str")
  | flt (x : UInt64) : TyOf K H (.flt x) (.type "float")
  | lst {a : Addr} {xs : List V} (e : H a = some (.lst xs)) : TyOf K H (.ref a) (.type "list")
  | frz {a : Addr} {o : Obj} {xs : List V} (e : H a = some (.frz o (.lst xs))) : TyOf K H (.ref a) (.type "list")
  | tup {a : Addr} {xs : List V} (e : H a = some (.tup xs)) : TyOf K H (.ref a) (.type "tuple")
  | dK {a : Addr} {kvs : List (Key × V)} (e : H a = some (.dK kvs)) : TyOf K H (.ref a) (.type "dict")
  | dT {a : Addr} {kvs : List (List Key × V)} (e : H a = some (.dT kvs)) : TyOf K H (.ref a) (.type "dict")
  | ins {a C dx : Addr} {fs : List (Str × V)} (e : H a = some (.ins C dx fs)) (cl : Cls K C) (ha : PySem.W.findIn K (.ref C) "__class__" = some (some (.builtin "object.__class__")))
      (hn : PySem.W.specialIn K (.builtin "object.__class__") "__get__" = some (some (.builtin "getset_descriptor.__get__"))) (htk : PySem.W.takesIn K (.builtin "object.__class__") = some true)
      (hm : PySem.W.mroIn K C (.type "object") = some true) : TyOf K H (.ref a) (.ref C)
end
end L2

namespace L2
open PySem PySem.Spec PyProof.Rows

/-! ### room -/
structure Room (k : Nat) (A : Around) : Prop where
  hd : A.handled = none
  dp : A.depth + 3 * k + 5 < recursionLimit
  un : A.units + 16 * k + 200 < cLine
theorem Room.mono {j k : Nat} {A : Around} (r : Room k A) (h : j ≤ k) : Room j A := ⟨r.hd, by have := r.dp; omega, by have := r.un; omega⟩
theorem Room.deeper {k : Nat} {A : Around} (r : Room (k + 1) A) (env : Env) : Room k (A.deeper env) :=
  ⟨r.hd, by have := r.dp; show A.depth + 1 + 3 * k + 5 < _; omega, by have := r.un; show A.units + 3 + 16 * k + 200 < _; omega⟩
theorem Room.in1 {k : Nat} {A : Around} (r : Room (k + 1) A) : Room k A.in1 :=
  ⟨r.hd, by have := r.dp; show A.depth + 3 * k + 5 < _; omega, by have := r.un; show A.units + 1 + 16 * k + 200 < _; omega⟩
theorem Room.depth {k : Nat} {A : Around} (r : Room k A) : A.depth < recursionLimit := by have := r.dp; omega
theorem Room.units {k : Nat} {A : Around} (r : Room k A) : A.units + 64 < cLine := by have := r.un; omega
/-! ### argument lists and displays -/
def tNil : TA := fun _ H Q => Q [] H
def tCons (ta : TE) (tr : TA) : TA := fun σ H Q => ta σ H fun x H1 => tr σ H1 fun xs H2 => Q (x :: xs) H2
section
variable {X : Cx} {e : Expr} {es : List Expr} {te : TE} {t : TA} {pos : Pos}
theorem pa_nil : PA X [] tNil := fun _ _ _ _ H Q I h => Calls.spliced_nil ⟨[], H, I, .nil, h⟩
theorem pa_cons (ha : PE X e te) (hr : PA X es t) (hs : starEach (e :: es) X.env = (false, eval e X.env) :: starEach es X.env := by rfl) : PA X (e :: es) (tCons te t) := by
  intro pos pins s σ H Q I h
  rw [hs]
  show wpAny _ _ (spliced ((false, eval e X.env) :: backTo pos (starEach es X.env))) _ _ s
  refine Calls.spliced_cons (thn (ha pins s σ H _ I h) fun u s1 ⟨x, H1, I1, r1, q1⟩ => ?_)
  exact thn (hr pos pins s1 σ H1 _ I1 q1) fun us s2 ⟨xs, H2, I2, r2, q2⟩ => ⟨x :: xs, H2, I2, .cons r1 r2, q2⟩

/-- a tuple, a list of written items -/
def tTup (t : TA) : TE := fun σ H Q => t σ H fun xs H1 => xs.length ≤ sizeLine ∧ ∀ p, H1 p = none → Q (.ref p) (upd H1 p (.tup xs))
def tLst (t : TA) : TE := fun σ H Q => t σ H fun xs H1 => xs.length ≤ sizeLine ∧ ∀ p, H1 p = none → Q (.ref p) (upd H1 p (.lst xs))
theorem pe_tup {x1} (h : PA X es t) : PE X (.Tuple es x1 pos) (tTup t) := by
  intro pins s σ H Q I hq
  refine wpAny_Tuple_spliced (thn (h pos pins s σ H _ I hq) fun us s1 ⟨xs, H1, I1, r, z, q⟩ => ⟨by rw [← r.length]; exact z, ?_⟩)
  have hf : H1 s1.heap.objs.size = none := I1.hok.fresh (Nat.le_refl _)
  refine ⟨.ref s1.heap.objs.size, upd H1 s1.heap.objs.size (.tup xs), I1.laid (t' := s1.toks) (fun b u e => Heap.get?_push_of_some _ e) (Nat.le_refl _) ?_, rfl, q _ hf⟩
  exact ⟨z, us, r, ⟨_, Heap.get?_push_size _ rfl, rfl, _, rfl⟩⟩
theorem pe_lst (h : PA X es t) : PE X (.List es pos) (tLst t) := by
  intro pins s σ H Q I hq
  refine wpAny_List_spliced (thn (h pos pins s σ H _ I hq) fun us s1 ⟨xs, H1, I1, r, z, q⟩ => ⟨by rw [← r.length]; exact z, ?_⟩)
  have hf : H1 s1.heap.objs.size = none := I1.hok.fresh (Nat.le_refl _)
  refine ⟨.ref s1.heap.objs.size, upd H1 s1.heap.objs.size (.lst xs), I1.laid (t' := s1.toks) (fun b u e => Heap.get?_push_of_some _ e) (Nat.le_refl _) ?_, rfl, q _ hf⟩
  exact ⟨z, us, 0, r, Heap.get?_push_size _ rfl⟩
end

/-! ### what a def promises -/
/-- a def's promise: the bound arguments in the parameters' order, the heap, the wanted end, the wanted exception -/
abbrev Sp := List V → Hp → VK → XK → Prop
/-- how an exception lies behind a call (file 08 gives it): the callers' frames, abstract heap and state ahead of the call, the wish, the exception, the state -/
abbrev CXT := List Env → Hp → Shared → XK → Value → Shared → Prop

/-- the state at a call -/
structure Env0 (P : Program) (w : World) (K : PySem.W.Frag) (mg : Str → Option Value) (base : Heap) (A : Around) (outer : List Env) (s : Shared) (H : Hp) : Prop where
  frames : A.frames = some outer
  mod : Mod K mg base
  bs : ∀ b o, base.get? b = some o → s.heap.get? b = some o ∧ H b = none
  bsz : base.objs.size ≤ s.heap.objs.size
  funs : s.heap.FunFrames base outer
  frf : ∀ b ∈ frs outer, H b = none
  hok : HOk P w H s.heap
  bare : AllBare s.gens
/-- a call's end -/
def CE (outer : List Env) (P : Program) (w : World) (H : Hp) (s : Shared) (Q : VK) (u : Value) (s' : Shared) : Prop :=
  ∃ v H', s'.os = s.os ∧ AllBare s'.gens ∧ Un (frs outer) [] H H' s.heap s'.heap ∧ HOk P w H' s'.heap ∧ RelV v u ∧ Q v H'
def CR (CX : CXT) (outer : List Env) (P : Program) (w : World) (H : Hp) (s : Shared) (Q : VK) (E : XK) (r : Result) (s' : Shared) : Prop :=
  match r with
  | .ok (.ret u) => CE outer P w H s Q u s'
  | .ok _ => False
  | .error e => CX outer H s E e s'
structure FnOk (P : Program) (w : World) (K : PySem.W.Frag) (mg : Str → Option Value) (base : Heap) (CX : CXT) (k : Nat) (f : Addr) (fd : FuncData) (ps : List Str) (sp : Sp) : Prop where
  len : ∀ vs H Q E, sp vs H Q E → vs.length = ps.length
  run : ∀ (A : Around) (outer : List Env) (s : Shared) (H : Hp) (args : Args) (us : List Value) (vs : List V) (Q : VK) (E : XK), Room k A → Env0 P w K mg base A outer s H → BindsTo s fd args (ps.zip us) → Vals vs us → sp vs H Q E →
    codeAny (model P w) A (.call (.ref f) args) (CR CX outer P w H s Q E) s
theorem FnOk.mono {P : Program} {w : World} {K : PySem.W.Frag} {mg : Str → Option Value} {base : Heap} {CX : CXT} {j k : Nat} {f : Addr} {fd : FuncData} {ps : List Str} {sp : Sp} (F : FnOk P w K mg base CX j f fd ps sp) (h : j ≤ k) :
    FnOk P w K mg base CX k f fd ps sp := ⟨F.len, fun A outer s H args us vs Q E hr => F.run A outer s H args us vs Q E (hr.mono h)⟩
/-- a weaker promise -/
theorem FnOk.imp {P : Program} {w : World} {K : PySem.W.Frag} {mg : Str → Option Value} {base : Heap} {CX : CXT} {k : Nat} {f : Addr} {fd : FuncData} {ps : List Str} {sp sp' : Sp} (F : FnOk P w K mg base CX k f fd ps sp)
    (h : ∀ vs H Q E, sp' vs H Q E → sp vs H Q E) : FnOk P w K mg base CX k f fd ps sp' :=
  ⟨fun vs H Q E q => F.len vs H Q E (h _ _ _ _ q), fun A outer s H args us vs Q E hr he hb hv hs => F.run A outer s H args us vs Q E hr he hb hv (h _ _ _ _ hs)⟩

theorem Env0.in1 {P : Program} {w : World} {K : PySem.W.Frag} {mg : Str → Option Value} {base : Heap} {A : Around} {outer : List Env} {s : Shared} {H : Hp} (e : Env0 P w K mg base A outer s H) :
    Env0 P w K mg base A.in1 outer s H := ⟨e.frames, e.mod, e.bs, e.bsz, e.funs, e.frf, e.hok, e.bare⟩

section
variable {X : Cx} {pins : List (Addr × Obj)} {σ : St} {H : Hp} {s s' : Shared}
/-- from a body: what a callee wants -/
theorem Inv.env0 (I : Inv X pins σ H s) : Env0 X.prog X.w X.K X.mg X.base X.A X.stack s H :=
  ⟨I.ok.frames, I.ok.mod, I.bs, Nat.le_trans I.ok.bsz I.sz, I.stack, I.stkFree, I.hok, I.bare⟩
/-- behind a call -/
theorem Inv.after {Q : VK} {u : Value} (I : Inv X pins σ H s) (h : CE X.stack X.prog X.w H s Q u s') : EP X pins σ Q u s' := by
  obtain ⟨v, H', os, bare, un, hok, r, q⟩ := h
  obtain ⟨hh, g, d, t, os'⟩ := s'
  obtain rfl : os' = s.os := os
  exact ⟨v, H', I.call (h' := hh) (g' := g) (d' := d) (t' := t) (ch := []) un hok bare (fun b z => absurd z (by simp)), r, q⟩
end

/-! ### calls -/
/-- f(..): the written arguments, then the defaults dvs; E: what is wanted of an exception -/
def tCall (sp : Sp) (dvs : List V) (E : XK) (t : TA) : TE := fun σ H Q => t σ H fun vs H1 => sp (vs ++ dvs) H1 Q E
/-- o.m(..) of an instance of the class at C -/
def tMeth (C : Addr) (m : Str) (sp : Sp) (dvs : List V) (E : XK) (ta : TE) (t : TA) : TE := fun σ H Q => ta σ H fun x H1 => ∃ a dx fs, x = .ref a ∧ H1 a = some (.ins C dx fs) ∧ fs.lookup m = none ∧
  t σ H1 fun vs H2 => sp (x :: (vs ++ dvs)) H2 Q E
/-- C(..): a new instance and its dict, then __init__ -/
def tMake (C : Addr) (sp : Sp) (dvs : List V) (E : XK) (t : TA) : TE := fun σ H Q => t σ H fun vs H1 => ∀ x dx, H1 x = none → H1 dx = none → dx ≠ x →
  sp (.ref x :: (vs ++ dvs)) (upd (upd H1 dx (.own x)) x (.ins C dx [])) (fun v H2 => v = .non ∧ Q (.ref x) H2) E

/-- how the parameters are bound: us the positional arguments, kw the keywords' values by name, ds the defaults that fill up -/
def Binds (K : PySem.W.Frag) (fd : FuncData) (ps : List Str) (ds : List Value) : Prop :=
  ∀ (s : Shared) (us : List Value), K.In s.heap → (us ++ ds).length = ps.length → BindsTo s fd ⟨us, []⟩ (ps.zip (us ++ ds))
/-- every parameter is given -/
theorem Binds.all {K : PySem.W.Frag} {fd : FuncData} {ps : List Str} (h : ∀ us : List Value, us.length = ps.length → bindArgs fd ⟨us, []⟩ = pure (ps.zip us)) : Binds K fd ps [] := fun s us _ hl => by
  rw [List.append_nil] at hl ⊢
  exact .of_eq (h us hl)

/-- an exception of a callee reaches what this body wants of exceptions -/
def Passes (CX : CXT) (X : Cx) (E : XK) : Prop := ∀ (pins : List (Addr × Obj)) (σ : St) (H : Hp) (s : Shared) (e : Value) (s' : Shared), Inv X pins σ H s → CX X.stack H s E e s' → X.xe e s'

section
variable {X : Cx} {CX : CXT} {k : Nat} {f C : Addr} {fd : FuncData} {ps : List Str} {sp : Sp} {dvs : List V} {ds : List Value} {E : XK} {x m : Str} {p pos apos : Pos} {e o : Expr} {es : List Expr} {ta : TE} {t : TA}

/-- the callee runs -/
theorem run_fn {pins : List (Addr × Obj)} {σ : St} {H : Hp} {s : Shared} {Q : VK} {us : List Value} {vs : List V} (F : FnOk X.prog X.w X.K X.mg X.base CX k f fd ps sp) (hr : Room k X.A) (hb : Binds X.K fd ps ds) (hd : Vals dvs ds) (hx : Passes CX X E)
    (I : Inv X pins σ H s) (r : Vals vs us) (h : sp (vs ++ dvs) H Q E) : wpAny (model X.prog X.w) X.A (call (.ref f) us) (EP X pins σ Q) X.xe s := by
  have r2 : Vals (vs ++ dvs) (us ++ ds) := r.append hd
  have hl : (us ++ ds).length = ps.length := by rw [← r2.length]; exact F.len _ _ _ _ h
  refine wpAny_call (codeAny_mono (F.run X.A X.stack s H ⟨us, []⟩ (us ++ ds) (vs ++ dvs) Q E hr I.env0 (hb s us I.kIn hl) r2 h) fun r s' hq => ?_)
  cases r with
  | error e => exact hx pins σ H s e s' I hq
  | ok fl =>
    cases fl with
    | ret u => exact I.after hq
    | next => exact False.elim hq
    | brk => exact False.elim hq
    | cont => exact False.elim hq

theorem pe_call (F : FnOk X.prog X.w X.K X.mg X.base CX k f fd ps sp) (hr : Room k X.A) (hg : Gl X x) (hm : X.mg x = some (.ref f)) (hk : PySem.W.keepIn X.K (.ref f) = true) (hb : Binds X.K fd ps ds) (hd : Vals dvs ds) (hx : Passes CX X E)
    (ha : PA X (e :: es) t) (hdb : (x == ("__debug__" : Str)) = false := by decide) (he : starEach (e :: es) X.env = (false, eval e X.env) :: starEach es X.env := by rfl) (hpl : (backTo pos (starEach es X.env)).any (·.1) = false := by rfl) :
    PE X (.Call (.Name x p) (e :: es) [] pos) (tCall sp dvs E t) := by
  intro pins s σ H Q I h
  refine wpAny_Call_Name_kw (ld_glob I hg hm ?_ hdb)
  refine PySem.W.callWith_K (h₀ := X.base) I.ok.mod.kin hk (thn (ha pos pins s σ H _ I h) fun us s1 ⟨vs, H1, I1, r, q⟩ => ⟨I1.kIn, ?_⟩) he hpl
  exact run_fn F hr hb hd hx I1 r q
/-- what a class must have to be made -/
structure Mk (K : PySem.W.Frag) (C f : Addr) : Prop where
  makes : PySem.W.makesIn K C = true
  init : PySem.W.findIn K (.ref C) "__init__" = some (some (.ref f))
  fn : PySem.W.isFn K (.ref f) = true
  kp : PySem.W.keepIn K (.ref C) = true

end

/-! ### keywords -/
/-- the values of the keywords, from the left -/
def PK (X : Cx) (kws : List Keyword) (t : TA) : Prop :=
  ∀ (pos : Pos) (pins : List (Addr × Obj)) (s : Shared) (σ : St) (H : Hp) (Q : List V → Hp → Prop), Inv X pins σ H s → t σ H Q → wpAny (model X.prog X.w) X.A (evalAll ((backToKw pos (keywordEach kws X.env)).map (·.2))) (AP X pins σ Q) X.xe s
section
variable {X : Cx} {CX : CXT} {k : Nat} {f C : Addr} {fd : FuncData} {ps ks : List Str} {sp : Sp} {E : XK} {x m : Str} {p pos apos kpos : Pos} {e o : Expr} {es : List Expr} {kws : List Keyword} {te ta : TE} {t tk : TA} {nm : Option Str}
/-- how a call with keywords binds: g puts the positional values us and the keywords' values ws (names ks) in the parameters' order, defaults among them -/
structure KBinds (K : PySem.W.Frag) (fd : FuncData) (ps ks : List Str) (g : List Value → List Value → List Value) (gV : List V → List V → List V) : Prop where
  to : ∀ (s : Shared) (us ws : List Value), K.In s.heap → (g us ws).length = ps.length → BindsTo s fd ⟨us, ks.zip ws⟩ (ps.zip (g us ws))
  rel : ∀ {vs : List V} {us : List Value} {zs : List V} {ws : List Value}, Vals vs us → Vals zs ws → Vals (gV vs zs) (g us ws)
def tCallK (sp : Sp) (gV : List V → List V → List V) (E : XK) (t tk : TA) : TE := fun σ H Q => t σ H fun vs H1 => tk σ H1 fun zs H2 => sp (gV vs zs) H2 Q E
variable {g : List Value → List Value → List Value} {gV : List V → List V → List V}
end

/-! ### a def's body keeps its promise -/
/-- names: the parameters first -/
structure FnScope (N P : List Str) (sc : Scope) : Prop where
  kind : sc.kind = .function
  co : sc.isCoroutine = false
  gen : sc.isGenerator = false
  nd : N.Nodup
  pre : N.take P.length = P
  par : ∀ x ∈ P, sc.names.lookup x = some .local ∨ sc.names.lookup x = some .cell
  nofree : ∀ y ∈ sc.names, y.2 ≠ .free

theorem bindL_out {kindOf : Str → Option NameKind} {x : Str} : ∀ {binds : List (Str × Value)} {m : Str → Option Value}, (∀ v, (x, v) ∉ binds) → bindL kindOf binds m x = m x
  | [], _, _ => rfl
  | (n, v) :: r, m, h => by
    unfold bindL
    rw [bindL_out fun w hw => h w (List.mem_cons_of_mem _ hw)]
    split
    · have : x ≠ n := by rintro rfl; exact h v List.mem_cons_self
      simp [this]
    · rfl
theorem bindC_out {kindOf : Str → Option NameKind} {x : Str} : ∀ {binds : List (Str × Value)} {m : Str → Option Value}, (∀ v, (x, v) ∉ binds) → bindC kindOf binds m x = m x
  | [], _, _ => rfl
  | (n, v) :: r, m, h => by
    unfold bindC
    rw [bindC_out fun w hw => h w (List.mem_cons_of_mem _ hw)]
    split
    · rfl
    · have : x ≠ n := by rintro rfl; exact h v List.mem_cons_self
      simp [this]
theorem bindL_get {kindOf : Str → Option NameKind} {x : Str} {v : Value} : ∀ {P : List Str} {vs : List Value} {i : Nat} {m : Str → Option Value}, P.Nodup → P[i]? = some x → vs[i]? = some v → kindOf x = some .local →
    bindL kindOf (P.zip vs) m x = some v
  | [], _, _, _, _, h, _, _ => by simp at h
  | _ :: _, [], _, _, _, _, h, _ => by simp at h
  | p :: P, w :: vs, 0, m, nd, h1, h2, hk => by
    simp at h1 h2; subst h1; subst h2
    show bindL kindOf ((p, w) :: P.zip vs) m p = _
    unfold bindL
    rw [bindL_out fun v hv => (List.nodup_cons.mp nd).1 (List.of_mem_zip hv).1, if_pos hk]
    simp
  | p :: P, w :: vs, i + 1, m, nd, h1, h2, hk => by
    show bindL kindOf ((p, w) :: P.zip vs) m x = _
    unfold bindL
    exact bindL_get (i := i) (List.nodup_cons.mp nd).2 (by simpa using h1) (by simpa using h2) hk
theorem bindC_get {kindOf : Str → Option NameKind} {x : Str} {v : Value} : ∀ {P : List Str} {vs : List Value} {i : Nat} {m : Str → Option Value}, P.Nodup → P[i]? = some x → vs[i]? = some v → kindOf x ≠ some .local →
    bindC kindOf (P.zip vs) m x = some v
  | [], _, _, _, _, h, _, _ => by simp at h
  | _ :: _, [], _, _, _, _, h, _ => by simp at h
  | p :: P, w :: vs, 0, m, nd, h1, h2, hk => by
    simp at h1 h2; subst h1; subst h2
    show bindC kindOf ((p, w) :: P.zip vs) m p = _
    unfold bindC
    rw [bindC_out fun v hv => (List.nodup_cons.mp nd).1 (List.of_mem_zip hv).1, if_neg hk]
    simp
  | p :: P, w :: vs, i + 1, m, nd, h1, h2, hk => by
    show bindC kindOf ((p, w) :: P.zip vs) m x = _
    unfold bindC
    exact bindC_get (i := i) (List.nodup_cons.mp nd).2 (by simpa using h1) (by simpa using h2) hk

/-- the names' values at the entry -/
def start (N : List Str) (vs : List V) : St := vs.map some ++ List.replicate (N.length - vs.length) none

/-- the context of a def's body, at its entry; an exception leaves the frame, then lies as CX says -/
def cxOf (CX : CXT) (P : Program) (w : World) (K : PySem.W.Frag) (mg : Str → Option Value) (base : Heap) (N : List Str) (qual : Str) (scope : Scope) (f : Addr) (cd : Value) (A : Around) (outer : List Env) (s : Shared) (H : Hp) (E : XK) : Cx where
  prog := P
  w := w
  K := K
  mg := mg
  base := base
  A := A.deeper (envOfC qual scope s.heap.objs.size f cd)
  N := N
  s_0 := s
  H_0 := H
  env := envOfC qual scope s.heap.objs.size f cd
  outer := outer
  stack := envOfC qual scope s.heap.objs.size f cd :: outer
  ex := []
  calm := true
  fn := fun _ => true
  pn := []
  xe := fun e s' => wpAny (model P w) (A.deeper (envOfC qual scope s.heap.objs.size f cd)) (leaving (envOfC qual scope s.heap.objs.size f cd) e) (fun _ s'' => CX outer H s E e s'') (fun e' s'' => CX outer H s E e' s'') s'

theorem cell_has {sc : Scope} {n : Nat} {x : Str} (h : sc.names.lookup x = some .cell) : ∃ c, (cellsFrom n sc.names []).lookup x = some c := by
  have q := PySem.W.cellsFrom_some sc.names n [] (.inl h)
  exact Option.isSome_iff_exists.mp q

theorem inv_start {CX : CXT} {P : Program} {w : World} {K : PySem.W.Frag} {mg : Str → Option Value} {base : Heap} {N ps : List Str} {qual : Str} {scope : Scope} {f : Addr} {cd : Value} {A : Around} {outer : List Env} {s s1 : Shared} {H : Hp} {E : XK} {us : List Value} {vs : List V}
    (S : FnScope N ps scope) (hd : A.handled = none) (e0 : Env0 P w K mg base A outer s H) (hl : vs.length = ps.length) (r : Vals vs us)
    (x : InCallC s s.heap.objs.size (bindL (envOfC qual scope s.heap.objs.size f cd).kindOf (ps.zip us) fun _ => none) (cellsFrom (s.heap.objs.size + 1) scope.names []) (bindC (envOfC qual scope s.heap.objs.size f cd).kindOf (ps.zip us) fun _ => none) s1) :
    Inv (cxOf CX P w K mg base N qual scope f cd A outer s H E) [] (start N vs) H s1 := by
  have hpl : ps.length ≤ N.length := by have := congrArg List.length S.pre; rw [List.length_take] at this; omega
  obtain ⟨h1, tk, rfl, hk⟩ := x.done
  have noA : ∀ b : Addr, b ∉ (cxOf CX P w K mg base N qual scope f cd A outer s H E).ex := fun b z => absurd (show b ∈ ([] : List Addr) from z) (by simp)
  refine ⟨⟨e0.mod, S.kind, rfl, rfl, Nat.le_refl _, fun y z c h1 h2 => ?_, fun y hy => ?_, fun y c _ h => ?_, fun _ => hd, Around.frames_deeper e0.frames, .inr ⟨rfl, rfl⟩, fun b z => absurd z (noA b), e0.bs, e0.bsz, fun b _ _ => noA b, fun b z => absurd z (noA b), e0.funs, e0.frf⟩,
    rfl, e0.bare, Un.kept hk, ⟨_, x.toInCall.ns, fun i y v h1 h2 h3 => ?_⟩, fun y c h => ⟨_, x.cell y c h⟩, e0.hok.fresh (Nat.le_refl _), fun y c h => ?_, fun p hp => absurd (show p ∈ ([] : List (Addr × Obj)) from hp) (by simp), e0.hok.kept hk, ?_⟩
  · exact name_of_addr x.apart (PySem.mem_of_lookup h1) (PySem.mem_of_lookup h2)
  · have hy : scope.names.lookup y = some .cell ∨ scope.names.lookup y = some .free := hy
    rcases hy with hy | hy
    · exact cell_has hy
    · exact absurd rfl (S.nofree _ (PySem.mem_of_lookup hy))
  · exact Nat.le_of_lt (x.above y c (PySem.mem_of_lookup h))
  · have hi : i < vs.length := by
      unfold start at h2
      by_cases hi : i < vs.length
      · exact hi
      · rw [List.getElem?_append_right (by simpa using hi)] at h2
        rw [List.getElem?_replicate] at h2
        split at h2 <;> cases h2
    have ha : vs[i]? = some v := by
      unfold start at h2
      rw [List.getElem?_append_left (by simpa using hi), List.getElem?_map] at h2
      cases e : vs[i]? with
      | none => rw [e] at h2; cases h2
      | some a => rw [e] at h2; cases h2; rfl
    obtain ⟨u, hu, rv⟩ := r.get ha
    have hp : ps[i]? = some y := by
      rw [← S.pre, List.getElem?_take_of_lt (by omega)]; exact h1
    have ndP : ps.Nodup := by rw [← S.pre]; exact S.nd.sublist (List.take_sublist _ _)
    refine ⟨u, rv, ?_⟩
    rcases S.par y (List.mem_of_getElem? hp) with k | k
    · exact .inl ⟨k, bindL_get ndP hp hu k⟩
    · obtain ⟨c, e⟩ := cell_has (n := s.heap.objs.size + 1) k
      refine .inr ⟨.inl k, c, e, ?_⟩
      have q := x.cell y c e
      rw [bindC_get ndP hp hu (by show scope.names.lookup y ≠ _; rw [k]; decide)] at q
      exact q
  · exact e0.hok.fresh (Nat.le_of_lt (x.above y c (PySem.mem_of_lookup h)))
  · unfold start
    show _ = N.length
    rw [List.length_append, List.length_map, List.length_replicate]
    omega

/-- THE RULE: a def (or a method) of the text, by its body. The body's reading t is chosen for each entry; it is run at the parameters' values -/
theorem fn_of {CX : CXT} {P : Program} {w : World} {K : PySem.W.Frag} {mg : Str → Option Value} {base : Heap} {k : Nat} {f : Addr} {name qual : Str} {params : Arguments} {body : List Stmt} {scope : Scope} {dV kV doc pm cdv ct oc : Value} {an od : Option Addr}
    {osl : Array (Option Value)} {N ps : List Str} {sp : Sp} (lk : K.lookup f = some ⟨oc, od, .func (PySem.W.fnOf name qual params body scope dV kV doc pm an cdv ct), osl⟩) (hcd : PySem.W.codeIn K cdv qual = true) (S : FnScope N ps scope)
    (len : ∀ vs H Q E, sp vs H Q E → vs.length = ps.length)
    (hbody : ∀ (A : Around) (outer : List Env) (s : Shared) (H : Hp) (vs : List V) (Q : VK) (E : XK), Room k (A.deeper (envOfC qual scope s.heap.objs.size f cdv)) → sp vs H Q E →
      ∃ t, PSs (cxOf CX P w K mg base N qual scope f cdv A outer s H E) body t ∧ t { nx := fun _ H' => Q .non H', rt := Q } (start N vs) H) :
    FnOk P w K mg base CX (k + 1) f (PySem.W.fnOf name qual params body scope dV kV doc pm an cdv ct) ps sp := by
  refine ⟨len, fun A outer s H args us vs Q E hr e0 hb r hsp => ?_⟩
  have hl := len _ _ _ _ hsp
  have KX : K.In s.heap := e0.mod.kin.keeps fun b o e => (e0.bs b o e).1
  have lim : s.heap.NoLimit := e0.mod.nolimit.keeps fun b o e => (e0.bs b o e).1
  have hkind : ∀ y ∈ ps.zip us, scope.names.lookup y.1 = some .local ∨ (scope.names.lookup y.1 = some .cell ∧ ((cellsFrom (s.heap.objs.size + 1) scope.names []).lookup y.1).isSome = true) := fun ⟨n, v⟩ hy => by
    rcases S.par n (List.of_mem_zip hy).1 with q | q
    · exact .inl q
    · exact .inr ⟨q, PySem.W.cellsFrom_some _ _ _ (.inl q)⟩
  refine codeAny_call_function hr.depth (KX _ _ lk) rfl S.co S.gen rfl (PySem.W.codeRec_of KX hcd) (hb _ _ _ _ ?_)
  refine wpAny_newFunctionEnv_cells S.kind hkind fun env he s1 x => ?_
  subst he
  refine ⟨lim.keeps x.toInCall.keep, codeAny_func ?_⟩
  obtain ⟨t, ht, hq⟩ := hbody A outer s H vs Q E (hr.deeper _) hsp
  have I : Inv (cxOf CX P w K mg base N qual scope f cdv A outer s H E) [] (start N vs) H s1 := inv_start S hr.hd e0 hl r x
  refine wpAny_mono (ht [] s1 (start N vs) H _ I hq) (fun fl s' hs => ?_) fun e s' hs => hs
  have fin : ∀ {σ' : St} {H' : Hp} {v : V} {u : Value}, Inv (cxOf CX P w K mg base N qual scope f cdv A outer s H E) [] σ' H' s' → RelV v u → Q v H' → CE outer P w H s Q u s' :=
    fun {σ' H' v u} J rv q => ⟨v, H', J.os, J.bare, J.base, J.hok, rv, q⟩
  cases fl with
  | ret u =>
    obtain ⟨v, σ', H', J, rv, q⟩ := hs
    exact fin J rv q
  | next =>
    obtain ⟨σ', H', J, q⟩ := hs
    exact fin (v := V.non) (u := Value.none) J rfl q
  | brk =>
    obtain ⟨_, _, _, q⟩ := hs
    exact False.elim q
  | cont =>
    obtain ⟨_, _, _, q⟩ := hs
    exact False.elim q
end L2

namespace L2
open PySem PySem.Spec PyProof.Rows
section
variable {X : Cx} {x : Str} {p pos : Pos} {e : Expr} {es : List Expr} {t : TA} {id T : String} {r : List V → Hp → VK → Prop}

def tCB (r : List V → Hp → VK → Prop) (t : TA) : TE := fun σ H Q => t σ H fun vs H1 => r vs H1 Q
/-- f(e, ..), f a built-in function -/
theorem pe_callB (hc : CallR X (.builtin id) r) (hg : Gl X x) (hm : X.mg x = none) (hv : bootBuiltins x = some (.builtin id)) (ha : PA X (e :: es) t) (hn : x ≠ "__name__" := by decide) (hdb : (x == ("__debug__" : Str)) = false := by decide)
    (he : starEach (e :: es) X.env = (false, eval e X.env) :: starEach es X.env := by rfl) (hpl : (backTo pos (starEach es X.env)).any (·.1) = false := by rfl) : PE X (.Call (.Name x p) (e :: es) [] pos) (tCB r t) := by
  intro pins s σ H Q I h
  refine wpAny_Call_Name_kw (ld_blt I hg hm hv ?_ hn hdb)
  exact PyProof.Rows.callWith_builtin1 (thn (ha pos pins s σ H _ I h) fun us s1 ⟨vs, H1, I1, r1, q1⟩ => hc pins s1 σ H1 vs us Q I1 r1 q1) he hpl
/-- T(e, ..), T a built-in type -/
theorem pe_callTy (hc : CallR X (.type T) r) (hg : Gl X x) (hm : X.mg x = none) (hv : bootBuiltins x = some (.type T)) (ha : PA X (e :: es) t) (hn : x ≠ "__name__" := by decide) (hdb : (x == ("__debug__" : Str)) = false := by decide)
    (he : starEach (e :: es) X.env = (false, eval e X.env) :: starEach es X.env := by rfl) (hpl : (backTo pos (starEach es X.env)).any (·.1) = false := by rfl) : PE X (.Call (.Name x p) (e :: es) [] pos) (tCB r t) := by
  intro pins s σ H Q I h
  refine wpAny_Call_Name_kw (ld_blt I hg hm hv ?_ hn hdb)
  exact PyProof.Rows.callWith_type1 (thn (ha pos pins s σ H _ I h) fun us s1 ⟨vs, H1, I1, r1, q1⟩ => hc pins s1 σ H1 vs us Q I1 r1 q1) he hpl
end
end L2

namespace HT
open PySem PyProof.Rows

/-- t < u of tuples of ints -/
def lexLt : List Int → List Int → Bool
  | [], [] => false
  | [], _ :: _ => true
  | _ :: _, [] => false
  | x :: xs, y :: ys => if x = y then lexLt xs ys else decide (x < y)
section
open PySem.SeqAt
open PySem.AutoSeq1 (wpAny_loadPart')
open PySem.MeetsSeq PySem.MeetsSeq2 PySem.MeetsSeq3

end

section
variable {prog : Program} {w : World} {A : Around} {E : Value → Shared → Prop} {s : Shared}

/-- t + u, t not empty -/
theorem cat_tup {t b : Addr} {vs ws : List Value} {Q : Value → Shared → Prop} (ht : IsTup s.heap t vs.toArray) (hb : IsTup s.heap b ws.toArray) (hv : vs ≠ [])
    (h1 : ws = [] → Q (.ref t) s) (h2 : ws ≠ [] → Q (.ref s.heap.objs.size) { s with heap := s.heap.push { cls := .type "tuple", data := .seq (vs ++ ws).toArray } })
    (hsz : vs.length + ws.length ≤ sizeLine) : wpAny (model prog w) A (binaryOp .Add (.ref t) (.ref b)) Q E s := by
  obtain ⟨⟨cls, dd, data, sl⟩, ho, hc, n, hd⟩ := id ht
  obtain ⟨⟨cls2, dd2, data2, sl2⟩, ho2, hc2, n2, hd2⟩ := id hb
  simp only at hc hd hc2 hd2
  subst hc hd hc2 hd2
  have e : vs.toArray ++ ws.toArray = (vs ++ ws).toArray := by simp
  by_cases hw : ws = []
  · exact concat_meets ⟨_, ho, rfl⟩ ⟨_, ho2, rfl⟩ noFill_tuple_add seq_tuple_add PySem.F.slot_tuple_add PySem.F.entry_tuple_add (PySem.F.args_tuple_add_2 _ _)
      (tuple_addW1 t b vs.toArray ws.toArray n n2 dd dd2 sl sl2 (by simpa using hv) (by simp [hw])) ⟨ho, ho2, h1 hw⟩
  · refine concat_meets ⟨_, ho, rfl⟩ ⟨_, ho2, rfl⟩ noFill_tuple_add seq_tuple_add PySem.F.slot_tuple_add PySem.F.entry_tuple_add (PySem.F.args_tuple_add_2 _ _)
      (tuple_addW2 t b vs.toArray ws.toArray n n2 dd dd2 sl sl2 (by simpa using hv) (by simpa using hw) (by rw [List.size_toArray, List.size_toArray]; exact hsz)) ⟨ho, ho2, ?_⟩
    rw [e]
    exact h2 hw

/-! ### t[a:b], not the whole -/
/-- a slice's bound as a place among n (d where it is left out) -/
def sIx (n d : Nat) : Option Int → Nat
  | none => d
  | some v => if v < 0 then (v + (n : Int)).toNat else min v.toNat n
theorem sIx_le (n d : Nat) (hd : d ≤ n) (o : Option Int) : sIx n d o ≤ n := by
  cases o with
  | none => exact hd
  | some v =>
    show (if v < 0 then (v + (n : Int)).toNat else min v.toNat n) ≤ n
    by_cases hv : v < 0
    · rw [if_pos hv]; omega
    · rw [if_neg hv]; exact Nat.min_le_right _ _
theorem clip_eq (v : Int) (n d : Nat) : (if v < 0 then max (v + (n : Int)) 0 else min v (n : Int)) = ((sIx n d (some v) : Nat) : Int) := by
  show (if v < 0 then max (v + (n : Int)) 0 else min v (n : Int)) = (((if v < 0 then (v + (n : Int)).toNat else min v.toNat n) : Nat) : Int)
  by_cases hv : v < 0
  · simp only [if_pos hv]; omega
  · simp only [if_neg hv]; omega
theorem adjust_gen (lo hi : Option Int) (n : Nat) : Builtin.Slice.sliceAdjust lo hi 1 (n : Int) = (((sIx n 0 lo : Nat) : Int), ((sIx n n hi : Nat) : Int)) := by
  have h1 : ¬ ((1 : Int) < 0) := by omega
  unfold Builtin.Slice.sliceAdjust
  simp only [h1, if_false]
  refine Prod.ext ?_ ?_
  · cases lo with
    | none => rfl
    | some v => exact clip_eq v n 0
  · cases hi with
    | none => rfl
    | some v => exact clip_eq v n n
theorem places_gen (i j : Nat) : Builtin.Slice.slicePlaces (i : Int) (j : Int) 1 = j - i := by
  unfold Builtin.Slice.slicePlaces
  have h1 : (1 : Int) > 0 := by omega
  simp only [h1, if_true, Int.ediv_one]
  split <;> omega
theorem slicePart_ {v : Value} {o : Option Int} {Q : Option Int → Shared → Prop} (p : IsPart v o) (h : Q o s) : wpAny (model prog w) A (Builtin.Slice.slicePartIndex v) Q E s := by
  cases p with
  | none => exact slicePart_none h
  | int i t => exact slicePart_int h
theorem sliceApplied_gen {sl : Addr} {vl vu : Value} {lo hi : Option Int} {n : Nat} {Q : Int × Int × Nat → Shared → Prop} (hs : s.heap.IsSliceOf sl vl vu .none) (pl : IsPart vl lo) (pu : IsPart vu hi)
    (h : Q (((sIx n 0 lo : Nat) : Int), 1, sIx n n hi - sIx n 0 lo) s) : wpAny (model prog w) A (Builtin.Slice.sliceApplied (.ref sl) (pure (n : Int))) Q E s := by
  obtain ⟨os, hos, hcs, hds⟩ := id hs
  unfold Builtin.Slice.sliceApplied Builtin.Slice.sliceFields
  refine wpAny_bind (wpAny_bind (wpAny_field hos hds (x := vl) rfl (wpAny_bind (wpAny_field hos hds (x := vu) rfl (wpAny_bind (wpAny_field hos hds (x := .none) rfl (wpAny_pure ?_)))))))
  refine wpAny_bind (slicePart_none ?_)
  show wpAny _ _ (if ((1 : Int) == 0) = true then _ else _) _ _ s
  rw [if_neg (by decide)]
  refine wpAny_bind (slicePart_ pl (wpAny_bind (slicePart_ pu (wpAny_bind (wpAny_pure ?_)))))
  show wpAny _ _ (match Builtin.Slice.sliceAdjust lo hi 1 (n : Int) with | (lo, hi) => pure (lo, (1 : Int), Builtin.Slice.slicePlaces lo hi 1)) _ _ s
  rw [adjust_gen lo hi n]
  show wpAny _ _ (pure (((sIx n 0 lo : Nat) : Int), (1 : Int), Builtin.Slice.slicePlaces ((sIx n 0 lo : Nat) : Int) ((sIx n n hi : Nat) : Int) 1)) _ _ s
  rw [places_gen]
  exact wpAny_pure h
theorem pick_gen (xs : Array Value) (i k : Nat) : ((List.range k).filterMap fun (m : Nat) => xs[((i : Int) + (m : Int) * 1).toNat]?).toArray = ((xs.toList.drop i).take k).toArray := by
  have e : (fun (m : Nat) => xs[((i : Int) + (m : Int) * 1).toNat]?) = fun m => xs[i + m]? := by
    funext m
    have : ((i : Int) + (m : Int) * 1).toNat = i + m := by omega
    rw [this]
  rw [e]
  have := pick_run xs i k
  rw [List.filterMap_map] at this
  have e2 : ((fun x => xs[x]?) ∘ fun x => i + x) = fun m => xs[i + m]? := rfl
  rw [e2] at this
  rw [this]

theorem getItem_tuple_cut {t sl : Addr} {items : Array Value} {vl vu : Value} {lo hi : Option Int} {Q : Value → Shared → Prop} (ht : IsTup s.heap t items) (hs : s.heap.IsSliceOf sl vl vu .none) (pl : IsPart vl lo) (pu : IsPart vu hi)
    (hw : ¬ (sIx items.size 0 lo = 0 ∧ sIx items.size items.size hi = items.size))
    (h : Q (.ref s.heap.objs.size) { s with heap := s.heap.push { cls := .type "tuple", data := .seq ((items.toList.drop (sIx items.size 0 lo)).take (sIx items.size items.size hi - sIx items.size 0 lo)).toArray } })
    (hsz : items.size ≤ sizeLine) : wpAny (model prog w) A (getItem (.ref t) (.ref sl)) Q E s := by
  have htake : sizeOk (.seq ((items.toList.drop (sIx items.size 0 lo)).take (sIx items.size items.size hi - sIx items.size 0 lo)).toArray) := by
    show ((items.toList.drop (sIx items.size 0 lo)).take (sIx items.size items.size hi - sIx items.size 0 lo)).toArray.size ≤ sizeLine
    rw [List.size_toArray, List.length_take, List.length_drop, Array.length_toList]
    omega
  have hj : sIx items.size items.size hi ≤ items.size := sIx_le _ _ (Nat.le_refl _) hi
  obtain ⟨os, hos, hcs, hds⟩ := id hs
  have hTs : s.TypeIs (.ref sl) "slice" := ⟨os, hos, hcs⟩
  unfold getItem
  try with_reducible refine wpAny_holding ?_
  first | refine wpAny_bind (wpAny_pure ?_) | skip
  refine wpAny_bind (wpAny_sequenceKey ht.typeIs (by decide) ?_)
  refine wpAny_bind (wpAny_callSpecial?_slot (name := Str.ofString "__getitem__") ht.typeIs PyProof.Rows.slot_tuple_getitem
    (wpAny_call_entry PyProof.Rows.slot_tuple_getitem ht.typeIs entry_tuple_getitem ?_ (args_tuple_getitem _ _)))
  show wpAny _ _ (Builtin.Tuple.tupleItemsOf (.ref t) >>= _) _ _ s
  refine wpAny_bind (tupleItemsOf_ ht ?_)
  refine wpAny_bind (wpAny_typeOf hTs ?_)
  rw [if_pos (by decide)]
  refine wpAny_bind (sliceApplied_gen hs pl pu ?_)
  have hno : ¬ ((((sIx items.size 0 lo : Nat) : Int) == 0 && (1 : Int) == 1 && (sIx items.size items.size hi - sIx items.size 0 lo) == items.size) = true) := by
    intro q
    rw [Bool.and_eq_true, Bool.and_eq_true] at q
    have q1 : ((sIx items.size 0 lo : Nat) : Int) = 0 := eq_of_beq q.1.1
    have q2 : sIx items.size items.size hi - sIx items.size 0 lo = items.size := eq_of_beq q.2
    exact hw ⟨by omega, by omega⟩
  show wpAny _ _ (if (((sIx items.size 0 lo : Nat) : Int) == 0 && (1 : Int) == 1 && (sIx items.size items.size hi - sIx items.size 0 lo) == items.size) = true then _ else _) _ _ s
  rw [if_neg hno, pick_gen]
  first
    | exact wpAny_bind (m := Builtin.Tuple.tupleExact _) (wpAny_newObj_type (wpAny_pure ⟨_, rfl, wpAny_pure h⟩) htake)
    | exact wpAny_bind (m := Builtin.Tuple.tupleExact _) (wpAny_newObj_type (wpAny_bind (wpAny_pure (wpAny_pure ⟨_, rfl, wpAny_pure h⟩))) htake)
    | exact wpAny_bind (wpAny_bind (m := Builtin.Tuple.tupleExact _) (wpAny_newObj_type (wpAny_pure (wpAny_pure ⟨_, rfl, wpAny_pure h⟩)) htake))
    | exact wpAny_bind (wpAny_bind (m := Builtin.Tuple.tupleExact _) (wpAny_newObj_type (wpAny_pure ⟨_, rfl, wpAny_pure h⟩) htake))
end
end HT

namespace L2
open PySem PySem.Spec PyProof.Rows

/-! ### the parts of a slice -/
abbrev TO := St → Hp → (Option Int → Hp → Prop) → Prop
/-- a slice's part (left out, or an int) -/
def PO (X : Cx) (e : Option Expr) (t : TO) : Prop :=
  ∀ (pins : List (Addr × Obj)) (s : Shared) (σ : St) (H : Hp) (Q : Option Int → Hp → Prop), Inv X pins σ H s → t σ H Q →
    wpAny (model X.prog X.w) X.A (evalPart e X.env) (fun u s' => ∃ o H', Inv X pins σ H' s' ∧ IsPart u o ∧ Q o H') X.xe s
def tNoPart : TO := fun _ H Q => Q none H
def tPart (t : TE) : TO := fun σ H Q => t σ H fun x H1 => ∃ i, x = .int i ∧ Q (some i) H1

section
variable {X : Cx} {e : Expr} {te : TE} {lo hi : Option Expr} {tl th : TO} {pos p2 : Pos}

theorem po_none : PO X none tNoPart := by
  intro pins s σ H Q I h
  rw [evalPart_none]
  exact wpAny_pure ⟨none, H, I, .none, h⟩
theorem po_some (h : PE X e te) : PO X (some e) (tPart te) := by
  intro pins s σ H Q I hw
  rw [evalPart_some]
  refine thn (h pins s σ H _ I hw) fun u s1 ⟨x, H1, I1, r1, q1⟩ => ?_
  obtain ⟨i, rfl, q⟩ := q1
  obtain ⟨t, rfl⟩ := r1
  exact ⟨some i, H1, I1, .int i t, q⟩

/-- what a slice of a value is, by values: the slice object stands at sl -/
def SlR (X : Cx) (r : V → Option Int → Option Int → Hp → VK → Prop) : Prop :=
  ∀ (pins : List (Addr × Obj)) (s : Shared) (σ : St) (H : Hp) (x : V) (v vl vu : Value) (lo hi : Option Int) (sl : Addr) (Q : VK), Inv X pins σ H s → RelV x v → s.heap.IsSliceOf sl vl vu .none → IsPart vl lo → IsPart vu hi → r x lo hi H Q →
    ∃ T id, typeLookup (.type T) "__getitem__" = pure (some (.builtin id)) ∧ s.TypeIs v T ∧ wpAny (model X.prog X.w) X.A (getItem v (.ref sl)) (EP X pins σ Q) X.xe s
theorem SlR.or {r r' : V → Option Int → Option Int → Hp → VK → Prop} (h : SlR X r) (h' : SlR X r') : SlR X (fun x lo hi H Q => r x lo hi H Q ∨ r' x lo hi H Q) := by
  intro pins s σ H x v vl vu lo hi sl Q I rx hs pl pu q
  rcases q with q | q
  · exact h pins s σ H x v vl vu lo hi sl Q I rx hs pl pu q
  · exact h' pins s σ H x v vl vu lo hi sl Q I rx hs pl pu q
def tSl (r : V → Option Int → Option Int → Hp → VK → Prop) (te : TE) (tl th : TO) : TE := fun σ H Q => te σ H fun x H1 => tl σ H1 fun l H2 => th σ H2 fun u H3 => r x l u H3 Q
/-- a[lo:hi], any a -/
theorem pe_slice {r : V → Option Int → Option Int → Hp → VK → Prop} (hr : SlR X r) (he : PE X e te) (hl : PO X lo tl) (hu : PO X hi th) : PE X (.Subscript e (.Slice lo hi none p2) pos) (tSl r te tl th) := by
  intro pins s σ H Q I h
  refine Subscript_ (thn (he pins s σ H _ I h) fun v s1 ⟨x, H1, I1, r1, q1⟩ => ?_)
  refine wpAny_Slice (thn (hl pins s1 σ H1 _ I1 q1) fun vl s2 ⟨l, H2, I2, pl, q2⟩ => thn (hu pins s2 σ H2 _ I2 q2) fun vu s3 ⟨u, H3, I3, pu, q3⟩ => ?_)
  rw [evalPart_none]
  refine wpAny_pure ?_
  have I4 : Inv X pins σ H3 { s3 with heap := s3.heap.push { cls := .type "slice", data := .fields #[vl, vu, .none] } } := I3.kept (t' := s3.toks) fun b ob q => Heap.get?_push_of_some _ q
  obtain ⟨T, id, hT, ht, hg⟩ := hr pins { s3 with heap := s3.heap.push { cls := .type "slice", data := .fields #[vl, vu, .none] } } σ H3 x v vl vu l u s3.heap.objs.size Q I4 r1 (Heap.IsSliceOf.new ..) pl pu q3
  show wpAny (model X.prog X.w) X.A (subscriptTail e (.Slice lo hi none p2) v (.ref s3.heap.objs.size)) (EP X pins σ Q) X.xe { s3 with heap := s3.heap.push { cls := .type "slice", data := .fields #[vl, vu, .none] } }
  exact tail_any (ops := [.ref s3.heap.objs.size, v]) ht hT hg (by with_unfolding_all rfl)

/-- the items of xs[lo:hi] -/
def cutV (xs : List V) (lo hi : Option Int) : List V := (xs.drop (HT.sIx xs.length 0 lo)).take (HT.sIx xs.length xs.length hi - HT.sIx xs.length 0 lo)
theorem cutV_length (xs : List V) (lo hi : Option Int) : (cutV xs lo hi).length ≤ xs.length := by
  unfold cutV
  rw [List.length_take, List.length_drop]
  omega
/-- t[lo:hi], not the whole of it (the whole would be t itself) -/
def rSlT (K : PySem.W.Frag) : V → Option Int → Option Int → Hp → VK → Prop := fun x lo hi H Q => ∃ a xs, x = .ref a ∧ SqT K H a xs ∧
  ¬ (HT.sIx xs.length 0 lo = 0 ∧ HT.sIx xs.length xs.length hi = xs.length) ∧ ∀ p, H p = none → Q (.ref p) (upd H p (.tup (cutV xs lo hi)))
theorem sl_tup : SlR X (rSlT X.K) := by
  intro pins s σ H x v vl vu lo hi sl Q I rx hs pl pu h
  obtain ⟨a, xs, rfl, hx, hw, q⟩ := h
  cases rx
  obtain ⟨its, r, ht, hz⟩ := I.tuple hx
  have hlen : its.toArray.size = xs.length := by rw [List.size_toArray]; exact r.length.symm
  refine ⟨"tuple", _, PyProof.Rows.slot_tuple_getitem.lookup, ht.typeIs, ?_⟩
  refine HT.getItem_tuple_cut ht hs pl pu (by rw [hlen]; exact hw) ?_ (by rw [hlen]; exact hz)
  rw [hlen]
  refine ⟨.ref s.heap.objs.size, _, I.laid (t' := s.toks) (o := .tup (cutV xs lo hi)) (fun b ob q => Heap.get?_push_of_some _ q) (Nat.le_refl _) ?_, rfl, q _ (I.hok.fresh (Nat.le_refl _))⟩
  exact ⟨Nat.le_trans (cutV_length xs lo hi) hz, _, (r.drop (HT.sIx xs.length 0 lo)).take (HT.sIx xs.length xs.length hi - HT.sIx xs.length 0 lo), IsTup.new _ _⟩

/-! ### t < u, t + u -/
def rLtT (K : PySem.W.Frag) : R2 := fun x y H Q => ∃ a b ns ms, x = .ref a ∧ y = .ref b ∧ SqT K H a (ns.map V.int) ∧ SqT K H b (ms.map V.int) ∧ Q (.bl (HT.lexLt ns ms)) H
/-- t + u, t not empty: u empty gives t itself -/
def rCatT (K : PySem.W.Frag) : R2 := fun x y H Q => ∃ a b xs ys, x = .ref a ∧ y = .ref b ∧ SqT K H a xs ∧ SqT K H b ys ∧ xs ≠ [] ∧ xs.length + ys.length ≤ sizeLine ∧
  (ys = [] → Q (.ref a) H) ∧ (ys ≠ [] → ∀ p, H p = none → Q (.ref p) (upd H p (.tup (xs ++ ys))))
theorem Vals.nil_iff {xs : List V} {us : List Value} (r : Vals xs us) : us = [] ↔ xs = [] := by
  cases r with
  | nil => simp
  | cons _ _ => simp
theorem op_catT : OpR X (binaryOp .Add) (rCatT X.K) := by
  intro pins s σ H x y v u Q I rx ry h
  obtain ⟨a, b, xs, ys, rfl, rfl, ha, hb, hx, hz, q1, q2⟩ := h
  cases rx
  cases ry
  obtain ⟨its, r1, p1, _⟩ := I.tuple ha
  obtain ⟨its2, r2, p2, _⟩ := I.tuple hb
  refine HT.cat_tup p1 p2 (fun z => hx (r1.nil_iff.mp z)) (fun z => ⟨.ref a, H, I, rfl, q1 (r2.nil_iff.mp z)⟩) (fun z => ?_) (by rw [← r1.length, ← r2.length]; exact hz)
  refine ⟨.ref s.heap.objs.size, _, I.laid (t' := s.toks) (o := .tup (xs ++ ys)) (fun b ob q => Heap.get?_push_of_some _ q) (Nat.le_refl _) ?_, rfl, q2 (fun w => z (r2.nil_iff.mpr w)) _ (I.hok.fresh (Nat.le_refl _))⟩
  exact ⟨by rw [List.length_append]; exact hz, _, r1.append r2, IsTup.new _ _⟩
end
end L2

namespace L2
open PySem PySem.Spec PyProof.Rows

/-! ### places -/
/-- the place that an index of any sign means -/
def ixN (n : Nat) (i : Int) : Option Nat := if 0 ≤ i then (if i < n then some i.toNat else none) else if -(n : Int) ≤ i then some (i + n).toNat else none
def atI {α : Type} (xs : List α) (i : Int) : Option α := (ixN xs.length i).bind fun j => xs[j]?
theorem ixN_seq {n : Nat} {i : Int} {j : Nat} (h : ixN n i = some j) : seqIndex? i n = some j ∧ j < n ∧ -(n : Int) ≤ i ∧ i < n := by
  unfold ixN at h
  by_cases h0 : 0 ≤ i
  · rw [if_pos h0] at h
    by_cases h1 : i < n
    · rw [if_pos h1] at h
      have e : i.toNat = j := Option.some.inj h
      exact ⟨by rw [seqIndex_of h0 h1, e], by omega, by omega, h1⟩
    · rw [if_neg h1] at h; cases h
  · rw [if_neg h0] at h
    by_cases h1 : -(n : Int) ≤ i
    · rw [if_pos h1] at h
      have e : (i + n).toNat = j := Option.some.inj h
      exact ⟨by rw [seqIndex_neg (by omega) h1, e], by omega, h1, by omega⟩
    · rw [if_neg h1] at h; cases h
theorem atI_get {α : Type} {xs : List α} {i : Int} {v : α} (h : atI xs i = some v) : ∃ j, seqIndex? i xs.length = some j ∧ xs[j]? = some v ∧ j < xs.length ∧ -(xs.length : Int) ≤ i ∧ i < xs.length := by
  unfold atI at h
  cases e : ixN xs.length i with
  | none => rw [e] at h; cases h
  | some j =>
    rw [e] at h
    obtain ⟨h1, h2, h3, h4⟩ := ixN_seq e
    exact ⟨j, h1, h, h2, h3, h4⟩
theorem atI_nat {α : Type} {xs : List α} {j : Nat} {v : α} (h : xs[j]? = some v) : atI xs (j : Int) = some v := by
  have hj : j < xs.length := (List.getElem?_eq_some_iff.mp h).1
  have e : ixN xs.length (j : Int) = some j := by
    unfold ixN
    rw [if_pos (by omega), if_pos (by omega)]; simp
  unfold atI; rw [e]; exact h
/-! ### what may be subscripted -/
/-- what stands as an index of a plain subscript -/
def PlainIx (b : Expr) : Prop := ∀ o i, subscripted b false o i = operate [o, i] (getItem o i)
/-- a subscript by values -/
def IxR (X : Cx) (r : R2) : Prop :=
  ∀ (value slice : Expr) (pins : List (Addr × Obj)) (s : Shared) (σ : St) (H : Hp) (x y : V) (v u : Value) (Q : VK), Inv X pins σ H s → RelV x v → RelV y u → r x y H Q →
    subscripted slice false v u = operate [v, u] (getItem v u) → wpAny (model X.prog X.w) X.A (subscriptTail value slice v u) (EP X pins σ Q) X.xe s
/-- a call of a builtin's method by values: the receiver, the arguments -/
def MtR (X : Cx) (id : String) (r : V → List V → Hp → VK → Prop) : Prop :=
  ∀ (pins : List (Addr × Obj)) (s : Shared) (σ : St) (H : Hp) (x : V) (xs : List V) (v : Value) (us : List Value) (Q : VK), Inv X pins σ H s → RelV x v → Vals xs us → r x xs H Q →
    wpAny (model X.prog X.w) X.A (call (.builtin id) (v :: us)) (EP X pins σ Q) X.xe s
section
variable {X : Cx} {a b : Expr} {ta tb : TE} {pos : Pos}
theorem IxR.or {r r' : R2} (h : IxR X r) (h' : IxR X r') : IxR X (fun x y H Q => r x y H Q ∨ r' x y H Q) := by
  intro value slice pins s σ H x y v u Q I rx ry q hs
  rcases q with q | q
  · exact h value slice pins s σ H x y v u Q I rx ry q hs
  · exact h' value slice pins s σ H x y v u Q I rx ry q hs
theorem MtR.or {id : String} {r r' : V → List V → Hp → VK → Prop} (h : MtR X id r) (h' : MtR X id r') : MtR X id (fun x xs H Q => r x xs H Q ∨ r' x xs H Q) := by
  intro pins s σ H x xs v us Q I rx rs q
  rcases q with q | q
  · exact h pins s σ H x xs v us Q I rx rs q
  · exact h' pins s σ H x xs v us Q I rx rs q
/-- a[b] -/
theorem pe_ix {r : R2} (hr : IxR X r) (ha : PE X a ta) (hb : PE X b tb) (hs : PlainIx b) : PE X (.Subscript a b pos) (tOp r ta tb) := by
  intro pins s σ H Q I h
  exact Subscript_ (binT ha hb I h fun v u s2 x y H2 I2 rx ry q => hr a b pins s2 σ H2 x y v u Q I2 rx ry q (hs _ _))

def rIxL (K : PySem.W.Frag) : R2 := fun x y H Q => ∃ p xs i v, x = .ref p ∧ y = .int i ∧ SqL K H p xs ∧ atI xs i = some v ∧ Q v H
def rIxT (K : PySem.W.Frag) : R2 := fun x y H Q => ∃ p xs i v, x = .ref p ∧ y = .int i ∧ SqT K H p xs ∧ atI xs i = some v ∧ Q v H
def rIxS : R2 := fun x y H Q => ∃ z i c, x = .str z ∧ y = .int i ∧ z.length ≤ sizeLine ∧ atI z.cps.toList i = some c ∧ Q (.str ⟨#[c]⟩) H
theorem ix_list : IxR X (rIxL X.K) := by
  intro value slice pins s σ H x y v u Q I rx ry h hs
  obtain ⟨p, xs, i, z, rfl, rfl, hq, he, q⟩ := h
  cases rx
  obtain ⟨t, rfl⟩ := ry
  obtain ⟨its, r, pl, hz⟩ := I.list hq
  obtain ⟨j, h1, h2, h3, h4, h5⟩ := atI_get he
  obtain ⟨w, ew, rw'⟩ := r.get h2
  have hl := r.length
  have hn := line63
  have fin : EP X pins σ Q w s := ⟨z, H, I, rw', q⟩
  by_cases h0 : 0 ≤ i
  · have hj : i.toNat = j := by
      rw [seqIndex_of h0 h5] at h1
      exact Option.some.inj h1
    exact item_listR pl.isList h0 (by omega) (by rw [hj]; simpa using ew) fin hs
  · have hj : (i + (its.toArray.size : Int)).toNat = j := by
      rw [seqIndex_neg (by omega) h4] at h1
      rw [List.size_toArray, ← hl]
      exact Option.some.inj h1
    exact subscriptTail_builtinR (x := w) pl.isList.typeIs slot_list_getitem.lookup
      (wpAny_getItem_list_neg (Q := fun r s' => r = w ∧ EP X pins σ Q r s') pl.isList (by omega) (by rw [List.size_toArray] <;> omega) (by omega) (by rw [hj]; simpa using ew) ⟨rfl, fin⟩) hs
theorem ix_tup : IxR X (rIxT X.K) := by
  intro value slice pins s σ H x y v u Q I rx ry h hs
  obtain ⟨p, xs, i, z, rfl, rfl, hq, he, q⟩ := h
  cases rx
  obtain ⟨t, rfl⟩ := ry
  obtain ⟨its, r, pl, hz⟩ := I.tuple hq
  obtain ⟨j, h1, h2, h3, h4, h5⟩ := atI_get he
  obtain ⟨w, ew, rw'⟩ := r.get h2
  have hl := r.length
  have hn := line63
  have fin : EP X pins σ Q w s := ⟨z, H, I, rw', q⟩
  exact subscriptTail_builtinR (x := w) pl.typeIs slot_tuple_getitem.lookup
    (getItem_tuple (j := j) (Q := fun r s' => r = w ∧ EP X pins σ Q r s') pl (by omega) (by omega) (by rw [List.size_toArray, ← hl]; exact h1) (by simpa using ew) ⟨rfl, fin⟩) hs
theorem ix_str : IxR X rIxS := by
  intro value slice pins s σ H x y v u Q I rx ry h hs
  obtain ⟨z, i, c, rfl, rfl, hz, he, q⟩ := h
  obtain ⟨t, rfl⟩ := rx
  obtain ⟨t', rfl⟩ := ry
  obtain ⟨j, h1, h2, h3, h4, h5⟩ := atI_get he
  have hl : z.cps.toList.length = z.length := by simp [Str.length]
  rw [hl] at h1 h4 h5
  have hn := line63
  exact tail_any (typeIs_str s z t) slot_str_getitem.lookup (getItem_str (c := c) (by
    have e1 : decide (i < -(2 ^ 63 : Int)) = false := decide_eq_false (by omega)
    have e2 : decide (i ≥ 2 ^ 63) = false := decide_eq_false (by omega)
    rw [e1, e2, Bool.or_false]) (by rw [h1]; simpa using h2) ⟨.str ⟨#[c]⟩, H, I.tok _, ⟨_, rfl⟩, q⟩) hs
/-- list, tuple or str -/
def rIx (K : PySem.W.Frag) : R2 := fun x y H Q => rIxL K x y H Q ∨ rIxT K x y H Q ∨ rIxS x y H Q
theorem Inv.lst {pins : List (Addr × Obj)} {σ : St} {H : Hp} {s : Shared} {p : Addr} {xs : List V} (I : Inv X pins σ H s) (h : H p = some (.lst xs)) :
    ∃ (its : List Value) (n : Nat), Vals xs its ∧ s.heap.get? p = some { cls := .type "list", data := .seq its.toArray n } ∧ xs.length ≤ sizeLine := by
  obtain ⟨z, its, n, r, e⟩ := I.hok p _ h
  exact ⟨its, n, r, e, z⟩
def rSetL : V → V → V → Hp → (Hp → Prop) → Prop := fun o i v H Q => ∃ p xs k j, o = .ref p ∧ i = .int k ∧ H p = some (.lst xs) ∧ ixN xs.length k = some j ∧ Q (upd H p (.lst (xs.set j v)))
/-! ### slices -/
theorem slice_bounds (lo hi : Option Int) (n : Nat) : (sliceBounds lo hi none n).1 = ((HT.sIx n 0 lo : Nat) : Int) ∧ (sliceBounds lo hi none n).2.1 = ((HT.sIx n n hi : Nat) : Int) ∧ (sliceBounds lo hi none n).2.2 = 1 := by
  refine ⟨?_, ?_, rfl⟩
  · cases lo with
    | none => simp [sliceBounds, HT.sIx]
    | some i =>
      simp only [sliceBounds, HT.sIx, Option.getD_none, show (1 : Int) > 0 by decide, if_true]
      by_cases h : i < 0
      · simp only [h, if_true] <;> omega
      · simp only [h, if_false] <;> omega
  · cases hi with
    | none => simp [sliceBounds, HT.sIx]
    | some i =>
      simp only [sliceBounds, HT.sIx, Option.getD_none, show (1 : Int) > 0 by decide, if_true]
      by_cases h : i < 0
      · simp only [h, if_true] <;> omega
      · simp only [h, if_false] <;> omega
theorem slicePick_cut (its : List Value) (lo hi : Option Int) : slicePick its.toArray lo hi none = ((its.drop (HT.sIx its.length 0 lo)).take (HT.sIx its.length its.length hi - HT.sIx its.length 0 lo)).toArray := by
  obtain ⟨h1, h2, h3⟩ := slice_bounds lo hi its.toArray.size
  unfold slicePick
  rw [h1, h2, h3]
  simp only [sliceRange_one, pick_run, List.size_toArray] <;> rfl
/-- xs[lo:hi] of a list: a new list -/
def rSlL (K : PySem.W.Frag) : V → Option Int → Option Int → Hp → VK → Prop := fun x lo hi H Q => ∃ a xs, x = .ref a ∧ SqL K H a xs ∧ ∀ p, H p = none → Q (.ref p) (upd H p (.lst (cutV xs lo hi)))
theorem sl_list : SlR X (rSlL X.K) := by
  intro pins s σ H x v vl vu lo hi sl Q I rx hs pl pu h
  obtain ⟨a, xs, rfl, hx, q⟩ := h
  cases rx
  obtain ⟨its, r, ht, hz⟩ := I.list hx
  have hlen := r.length
  refine ⟨"list", _, slot_list_getitem.lookup, ht.isList.typeIs, ?_⟩
  refine wpAny_getItem_list_slice ht.isList hs pl pu .none (by simp) ?_ (by rw [List.size_toArray] <;> omega)
  rw [slicePick_cut, ← hlen]
  refine ⟨.ref s.heap.objs.size, _, I.laid (t' := s.toks) (o := .lst (cutV xs lo hi)) (fun b ob q => Heap.get?_push_of_some _ q) (Nat.le_refl _) ?_, rfl, q _ (I.hok.fresh (Nat.le_refl _))⟩
  exact ⟨Nat.le_trans (cutV_length xs lo hi) hz, _, 0, (r.drop (HT.sIx xs.length 0 lo)).take (HT.sIx xs.length xs.length hi - HT.sIx xs.length 0 lo), Heap.get?_push_size _ rfl⟩

/-! ### in, not in: flat items -/
def flatV : V → Bool
  | .non => true
  | .bl _ => true
  | .int _ => true
  | .str _ => true
  | _ => false
/-- == of flat values -/
def eqV : V → V → Bool
  | .non, .non => true
  | .bl a, .bl b => a == b
  | .bl a, .int b => (if a then 1 else 0) == b
  | .int a, .bl b => a == (if b then 1 else 0)
  | .int a, .int b => a == b
  | .str a, .str b => a == b
  | _, _ => false
/-- the items' answers, read off the values (a value's own answer does not lean on its token) -/
def eqU (x : V) (u : Value) : Bool := match u with
  | .none => eqV .non x
  | .bool b => eqV (.bl b) x
  | .int i _ => eqV (.int i) x
  | .str z _ => eqV (.str z) x
  | _ => false
def inV (x : V) (xs : List V) : Bool := xs.any fun y => eqV y x
/-- x in a list or tuple of flat items -/
def rIn (K : PySem.W.Frag) (neg : Bool) : R2 := fun x y H Q => ∃ p xs, y = .ref p ∧ (SqL K H p xs ∨ SqT K H p xs) ∧ flatV x = true ∧ xs.all flatV = true ∧ Q (.bl (if neg then !inV x xs else inV x xs)) H
theorem CallR.or {f : Value} {r r' : List V → Hp → VK → Prop} (h : CallR X f r) (h' : CallR X f r') : CallR X f (fun xs H Q => r xs H Q ∨ r' xs H Q) := by
  intro pins s σ H xs us Q I rs q
  rcases q with q | q
  · exact h pins s σ H xs us Q I rs q
  · exact h' pins s σ H xs us Q I rs q
theorem call_tuple_of : CallR X (.type "tuple") (fun xs H Q => ∃ p ys, xs = [.ref p] ∧ ((SqL X.K H p ys ∧ ∀ l, H l = none → Q (.ref l) (upd H l (.tup ys))) ∨ (SqT X.K H p ys ∧ Q (.ref p) H))) := by
  intro pins s σ H xs us Q I r h
  obtain ⟨p, ys, rfl, h⟩ := h
  obtain ⟨u, rfl, rx⟩ := vals1 r
  cases rx
  rcases h with ⟨hq, q⟩ | ⟨hq, q⟩
  · obtain ⟨its, r', pl, hz⟩ := I.list hq
    have hlen := r'.length
    refine call_tuple_list pl.isList (fun h' kp => ?_) (by simp only [List.size_toArray] <;> omega)
    have I1 : Inv X pins σ H { s with heap := h' } := I.kept (t' := s.toks) kp
    have I2 : Inv X pins σ (upd H h'.objs.size (.tup ys)) { s with heap := h'.push { cls := .type "tuple", data := .seq its.toArray } } :=
      I1.laid (t' := s.toks) (fun b o e => Heap.get?_push_of_some _ e) (Nat.le_refl _) (show ObjOk X.prog X.w _ _ _ (.tup ys) from ⟨hz, its, r', IsTup.new _ _⟩)
    exact ⟨.ref h'.objs.size, _, I2, rfl, q _ (I1.hok.fresh (Nat.le_refl _))⟩
  · obtain ⟨its, r', pl, hz⟩ := I.tuple hq
    exact call_tuple_same pl ⟨.ref p, H, I, rfl, q⟩

/-! ### the call of a builtin's method: o.m(..) -/
/-- the value is of that builtin type -/
def tyV (K : PySem.W.Frag) (T : String) (x : V) (H : Hp) : Prop := match x with
  | .str _ => T = "str"
  | .int _ => T = "int"
  | .ref p => (T = "list" ∧ ∃ xs, SqL K H p xs) ∨ (T = "tuple" ∧ ∃ o, K.lookup p = some o ∧ o.cls = .type "tuple" ∧ o.dict = none) ∨
      (T = "dict" ∧ ((∃ kvs, H p = some (.dK kvs)) ∨ ∃ kvs, H p = some (.dT kvs))) ∨ (T = "set" ∧ ∃ S n, H p = some (.set S n))
  | _ => False
theorem tyV_is {pins : List (Addr × Obj)} {σ : St} {H : Hp} {s : Shared} {T : String} {x : V} {v : Value} (I : Inv X pins σ H s) (r : RelV x v) (ty : tyV X.K T x H) :
    s.TypeIs v T ∧ ∀ a, v = .ref a → ∃ ob, s.heap.get? a = some ob ∧ ob.dict = none := by
  cases x with
  | str z =>
    obtain ⟨t, rfl⟩ := r
    cases (show T = "str" from ty)
    exact ⟨typeIs_str s z t, fun _ e => nomatch e⟩
  | int i =>
    obtain ⟨t, rfl⟩ := r
    cases (show T = "int" from ty)
    exact ⟨typeIs_int s i t, fun _ e => nomatch e⟩
  | ref p =>
    cases r
    rcases ty with ⟨rfl, xs, hq⟩ | ⟨rfl, o, hk, hc, hd⟩ | ⟨rfl, hk⟩ | ⟨rfl, S, n, hk⟩
    · obtain ⟨its, _, pl, _⟩ := I.list hq
      refine ⟨pl.isList.typeIs, fun a e => ?_⟩
      cases e
      obtain ⟨o, n, e, c, hd, _⟩ := pl
      exact ⟨o, e, hd⟩
    · refine ⟨⟨o, I.kIn p o hk, hc⟩, fun a e => ?_⟩
      cases e
      exact ⟨o, I.kIn _ o hk, hd⟩
    · have z : ∃ o, s.heap.get? p = some o ∧ o.ExactDict := by
        rcases hk with ⟨kvs, hk⟩ | ⟨kvs, hk⟩
        · obtain ⟨_, _, _, _, o, _, _, e, ex, _⟩ := I.hok p _ hk
          exact ⟨o, e, ex⟩
        · obtain ⟨_, _, _, _, o, _, _, e, ex, _⟩ := I.hok p _ hk
          exact ⟨o, e, ex⟩
      obtain ⟨o, e, ex⟩ := z
      refine ⟨⟨o, e, ex.1⟩, fun a e2 => ?_⟩
      cases e2
      exact ⟨o, e, ex.2.1⟩
    · obtain ⟨o, _, _, _, e, ex, _⟩ := I.hok p _ hk
      refine ⟨⟨o, e, ex.1⟩, fun a e2 => ?_⟩
      cases e2
      exact ⟨o, e, ex.2.1⟩
  | _ => exact False.elim ty
def tBM0 (K : PySem.W.Frag) (T : String) (r : V → List V → Hp → VK → Prop) (to : TE) : TE := fun σ H Q => to σ H fun x H1 => tyV K T x H1 ∧ r x [] H1 Q
def tBM (K : PySem.W.Frag) (T : String) (r : V → List V → Hp → VK → Prop) (to : TE) (t : TA) : TE := fun σ H Q => to σ H fun x H1 => tyV K T x H1 ∧ t σ H1 fun xs H2 => r x xs H2 Q
variable {o e : Expr} {es : List Expr} {to : TE} {t : TA} {name : Str} {apos cpos : Pos} {T id : String} {r : V → List V → Hp → VK → Prop}
theorem pe_bm (pa : PlainAttrs T) (slot : Slot T name id) (hty : typeOf (.builtin id) = pure (.type "method_descriptor")) (hm : MtR X id r) (ho : PE X o to) (ha : PA X (e :: es) t)
    (hbase : attributeBase o name X.env (eval o X.env) = eval o X.env := by rfl)
    (hfew : ((backTo cpos (starEach (e :: es) X.env)).all (fun x => !x.1) && (backToKw cpos (keywordEach [] X.env)).all (fun x => x.1.isSome)
      && decide ((e :: es).length + ([] : List Keyword).length + (if ([] : List Keyword).isEmpty then 0 else 1) < 30)) = true := by rfl)
    (hline : (apos.endLine == cpos.line) = true := by rfl) (hs : starEach (e :: es) X.env = (false, eval e X.env) :: starEach es X.env := by rfl) (hplain : (backTo cpos (starEach es X.env)).any (·.1) = false := by rfl) :
    PE X (.Call (.Attribute o name apos) (e :: es) [] cpos) (tBM X.K T r to t) := by
  intro pins s σ H Q I h
  refine wpAny_Call_method_late hbase hfew hline rfl (thn (ho pins s σ H _ I h) fun v s1 ⟨x, H1, I1, r1, ty, q1⟩ => ?_)
  obtain ⟨h1, h2⟩ := tyV_is I1 r1 ty
  refine ⟨T, id, pa, slot, hty, h1, h2, ?_⟩
  have hA := ha cpos pins s1 σ H1 _ I1 q1
  rw [hs] at hA ⊢
  refine Calls.callWith_builtin (by show (false || (backTo cpos (starEach es X.env)).any (·.1)) = false; rw [hplain] <;> rfl) (Calls.evalArgs_plain ?_)
  exact thn hA fun us s2 ⟨vs, H2, I2, r2, q2⟩ => hm pins s2 σ H2 x vs v us Q I2 r1 r2 q2
/- xs.append(e), list.index on a module's tuple .. are MtR facts of 06m -/
end
end L2

namespace L2
open PySem PySem.Spec PyProof.Rows

def MtM (X : Cx) (id : String) (r : V → List V → Hp → VK → Prop) : Prop :=
  ∀ (pins : List (Addr × Obj)) (s : Shared) (σ : St) (H : Hp) (x : V) (xs : List V) (v : Value) (us : List Value) (Q : VK), Inv X pins σ H s → RelV x v → Vals xs us → r x xs H Q →
    wpAny (model X.prog X.w) X.A (call (.builtin id) (v :: us)) (EP X pins σ Q) X.xe s

/-! ### lists of values -/
theorem Vals.one : ∀ {x : V} {us : List Value}, Vals [x] us → ∃ u, us = [u] ∧ RelV x u
  | _, _, .cons r .nil => ⟨_, rfl, r⟩
theorem Vals.two : ∀ {x y : V} {us : List Value}, Vals [x, y] us → ∃ u v, us = [u, v] ∧ RelV x u ∧ RelV y v
  | _, _, _, .cons r (.cons q .nil) => ⟨_, _, rfl, r, q⟩
theorem Vals.zero : ∀ {us : List Value}, Vals [] us → us = []
  | _, .nil => rfl
theorem Vals.dropLast {xs : List V} {us : List Value} (h : Vals xs us) : Vals xs.dropLast us.dropLast := by
  induction h with
  | nil => exact .nil
  | cons r t ih =>
    cases t with
    | nil => exact .nil
    | cons q t' => exact .cons r ih
theorem Vals.eraseIdx : ∀ {xs : List V} {us : List Value} (i : Nat), Vals xs us → Vals (xs.eraseIdx i) (us.eraseIdx i)
  | _, _, _, .nil => .nil
  | _, _, 0, .cons _ t => t
  | _, _, i + 1, .cons r t => .cons r (Vals.eraseIdx i t)
theorem Vals.reverse {xs : List V} {us : List Value} (h : Vals xs us) : Vals xs.reverse us.reverse := by
  induction h with
  | nil => exact .nil
  | cons r t ih => rw [List.reverse_cons, List.reverse_cons]; exact Vals.append ih (.cons r .nil)
theorem Vals.rep {xs : List V} {us : List Value} (h : Vals xs us) : ∀ k : Nat, Vals (List.replicate k xs).flatten (List.replicate k us).flatten
  | 0 => .nil
  | k + 1 => by
    rw [List.replicate_succ, List.replicate_succ, List.flatten_cons, List.flatten_cons]
    exact Vals.append h (Vals.rep h k)
theorem foldl_rep (its : List Value) : ∀ (k : Nat) (acc : List Value),
    List.foldl (fun x1 x2 => x1 ++ x2) acc.toArray (List.replicate k its.toArray) = (acc ++ (List.replicate k its).flatten).toArray
  | 0, acc => by simp
  | k + 1, acc => by
    have e : acc.toArray ++ its.toArray = (acc ++ its).toArray := by simp
    have e2 : (acc ++ its) ++ (List.replicate k its).flatten = acc ++ (List.replicate (k + 1) its).flatten := by
      rw [List.replicate_succ, List.flatten_cons, List.append_assoc]
    rw [← e2, ← foldl_rep its k (acc ++ its), ← e, List.replicate_succ, List.foldl_cons]

section
variable {X : Cx} {pins : List (Addr × Obj)} {σ : St} {H : Hp} {s : Shared} {l b : Addr} {xs ys zs : List V}

/-! ### the two steps: a tracked list is rewritten, a new list is laid -/
theorem Inv.lset {its its' : List Value} {n : Nat} {f : Array Value → Array Value} {t' : Nat} (I : Inv X pins σ H s) (hH : H l = some (.lst xs))
    (e : s.heap.get? l = some { cls := .type "list", data := .seq its.toArray n }) (hf : f its.toArray = its'.toArray) (hv : Vals ys its') (hz : ys.length ≤ sizeLine) :
    Inv X pins σ (upd H l (.lst ys)) { s with heap := s.heap.update l (Obj.mapSeq f), toks := t' } := by
  have q := PySem.IsL.update e f
  rw [hf] at q
  refine I.write (x := l) (e := l) (by rw [hH]; exact trivial) (.inl rfl) (fun b' u hb hu => (Heap.get?_update_other s.heap (Obj.mapSeq f) (Ne.symm hb)).trans hu) ⟨_, q⟩ ?_
  exact ⟨hz, its', _, hv, q⟩
theorem Inv.lnew {its : List Value} {t' : Nat} (I : Inv X pins σ H s) (hv : Vals ys its) (hz : ys.length ≤ sizeLine) :
    Inv X pins σ (upd H s.heap.objs.size (.lst ys)) { s with heap := s.heap.push { cls := .type "list", data := .seq its.toArray }, toks := t' } :=
  I.laid (fun _ _ q => Heap.get?_push_of_some _ q) (Nat.le_refl _) ⟨hz, its, 0, hv, Heap.get?_push_size _ rfl⟩
theorem Inv.fresh (I : Inv X pins σ H s) : H s.heap.objs.size = none := I.hok.fresh (Nat.le_refl _)
theorem Inv.lstM (I : Inv X pins σ H s) (hH : H l = some (.lst xs)) : xs.length ≤ sizeLine ∧ ∃ (its : List Value) (n : Nat), Vals xs its ∧ xs.length = its.length ∧ s.heap.get? l = some { cls := .type "list", data := .seq its.toArray n } := by
  obtain ⟨z, its, n, r, e⟩ := I.hok l _ hH
  exact ⟨z, its, n, r, r.length, e⟩

theorem notLongL {n : Nat} (h : n ≤ sizeLine) : Builtin.List.listTooLong n = false := by
  unfold Builtin.List.listTooLong
  exact decide_eq_false (by omega)
end

section
variable {X : Cx}

/-! ### methods -/
def rAppend : V → List V → Hp → VK → Prop := fun x vs H Q => ∃ l xs y, x = .ref l ∧ vs = [y] ∧ H l = some (.lst xs) ∧ xs.length < sizeLine ∧ Q .non (upd H l (.lst (xs ++ [y])))
theorem mt_append : MtM X "list.append" rAppend := by
  intro pins s σ H x vs v us Q I rx rv h
  obtain ⟨l, xs, y, rfl, rfl, hH, hz, q⟩ := h
  cases rx
  obtain ⟨u, rfl, ru⟩ := rv.one
  obtain ⟨z, its, n, r, hl, e⟩ := I.lstM hH
  refine call_meets F.slot_list_append ⟨_, e, rfl⟩ F.entry_list_append (F.args_list_append_2 _ _) (PySem.list_append l its.toArray n u (by rw [List.size_toArray]; omega)) ⟨e, ?_⟩
  refine ⟨.non, _, I.lset (its' := its ++ [u]) hH e (by simp) (r.append (.cons ru .nil)) ?_, rfl, q⟩
  rw [List.length_append, List.length_singleton]
  omega

def rExtend : V → List V → Hp → VK → Prop := fun x vs H Q => ∃ l b xs zs, x = .ref l ∧ vs = [.ref b] ∧ H l = some (.lst xs) ∧ H b = some (.lst zs) ∧ xs.length + zs.length ≤ sizeLine ∧ Q .non (upd H l (.lst (xs ++ zs)))
def rPop : V → List V → Hp → VK → Prop := fun x vs H Q => ∃ l xs y, x = .ref l ∧ vs = [] ∧ H l = some (.lst xs) ∧ xs[xs.length - 1]? = some y ∧ Q y (upd H l (.lst xs.dropLast))
def rPopAt : V → List V → Hp → VK → Prop := fun x vs H Q => ∃ l xs i k y, x = .ref l ∧ vs = [.int i] ∧ H l = some (.lst xs) ∧ -(2 ^ 63) ≤ i ∧ i < 2 ^ 63 ∧ seqIndex? i xs.length = some k ∧ xs[k]? = some y ∧ Q y (upd H l (.lst (xs.eraseIdx k)))
def rReverse : V → List V → Hp → VK → Prop := fun x vs H Q => ∃ l xs, x = .ref l ∧ vs = [] ∧ H l = some (.lst xs) ∧ Q .non (upd H l (.lst xs.reverse))
def rClear : V → List V → Hp → VK → Prop := fun x vs H Q => ∃ l xs, x = .ref l ∧ vs = [] ∧ H l = some (.lst xs) ∧ Q .non (upd H l (.lst []))
/-! ### list + list, list += list, list * int -/
def rCat : R2 := fun x y H Q => ∃ l b xs zs, x = .ref l ∧ y = .ref b ∧ H l = some (.lst xs) ∧ H b = some (.lst zs) ∧ xs.length + zs.length ≤ sizeLine ∧ ∀ p, H p = none → Q (.ref p) (upd H p (.lst (xs ++ zs)))
/-- a list times an int (a negative one is nothing) -/
def rRep : R2 := fun x y H Q => ∃ l k xs, x = .ref l ∧ y = .int k ∧ H l = some (.lst xs) ∧ -(2 ^ 63) ≤ k ∧ k < 2 ^ 63 ∧ xs.length * k.toNat ≤ sizeLine ∧
  ∀ p, H p = none → Q (.ref p) (upd H p (.lst (List.replicate k.toNat xs).flatten))
theorem len_rep {α : Type} (xs : List α) (k : Nat) : (List.replicate k xs).flatten.length = k * xs.length := by
  induction k with
  | zero => simp
  | succ k ih => rw [List.replicate_succ, List.flatten_cons, List.length_append, ih, Nat.succ_mul, Nat.add_comm]
theorem op_rep : OpR X (binaryOp .Mult) rRep := by
  intro pins s σ H x y v u Q I rx ry h
  obtain ⟨l, k, xs, rfl, rfl, hH, h1, h2, hz, q⟩ := h
  cases rx
  obtain ⟨t, rfl⟩ := ry
  obtain ⟨z, its, n, r, hl, e⟩ := I.lstM hH
  have hlen : its.toArray.size * k.toNat ≤ sizeLine := by rw [List.size_toArray, ← hl]; exact hz
  have hcap : ¬ its.toArray.size * k.toNat > (2 ^ 63 - 1) / 8 := by
    have : (sizeLine : Nat) ≤ (2 ^ 63 - 1) / 8 := by decide
    omega
  have hfit : ¬ (!Builtin.List.listFitsIndex k) = true := by
    rw [fitsIndex_both h1 h2]
    exact Bool.false_ne_true
  have hlong : ¬ Builtin.List.listTooLong (its.toArray.size * k.toNat) = true := by
    rw [notLongL hlen]
    exact Bool.false_ne_true
  have hnew : List.foldl (fun x1 x2 => x1 ++ x2) #[] (List.replicate (if its.toArray.isEmpty = true then 0 else k.toNat) its.toArray) = (List.replicate k.toNat its).flatten.toArray := by
    have f0 : ∀ m : Nat, List.foldl (fun x1 x2 => x1 ++ x2) #[] (List.replicate m its.toArray) = (List.replicate m its).flatten.toArray := fun m => by
      have := foldl_rep its m []
      rw [List.nil_append] at this
      exact this
    rw [f0]
    cases its with
    | nil => simp
    | cons a r' => rw [if_neg (by simp)]
  refine wpAny_binaryOp_repeat_ref (T := "list") (U := "int") (by decide) ⟨_, e, rfl⟩ (fun s' => typeIs_int s' k t) noFill_list_mul F.fills_int_mul F.slot_int_rmul repeat_list F.slot_int_index.lookup
    (call_meets F.slot_int_rmul (typeIs_int s k t) F.entry_int_rmul (F.args_int_rmul_2 _ _) (int___rmul___int_list k t l its.toArray n)
      ⟨e, rfl, ⟨_, e, rfl⟩, call_meets F.slot_list_mul ⟨_, e, rfl⟩ F.entry_list_mul (F.args_list_mul_2 _ _) (AutoListH.list___mul___list_int_3 l its.toArray n k t hfit hcap hlong) ⟨e, ?_⟩⟩)
  rw [hnew]
  exact ⟨.ref _, _, I.lnew (t' := s.toks) (r.rep k.toNat) (by rw [len_rep, Nat.mul_comm]; exact hz), rfl, q _ I.fresh⟩

end

/-! ### xs[a:b] = ys -/
section
variable {prog : Program} {w : World} {A : Around} {E : Value → Shared → Prop} {s : Shared}
end

section
variable {X : Cx}
end
end L2

namespace L2
open PySem PySem.Spec PyProof.Rows

theorem Vals.ints : ∀ {ns : List Int} {us : List Value}, Vals (ns.map V.int) us → IntsAre us ns
  | [], us, h => by
    rw [List.map_nil] at h
    cases h
    exact IntsAre.nil
  | n :: ns, us, h => by
    rw [List.map_cons] at h
    cases h with
    | cons r t =>
      obtain ⟨k, rfl⟩ := r
      exact IntsAre.cons n k (Vals.ints t)
theorem vals_of_ints : ∀ {us : List Value} {ns : List Int}, IntsAre us ns → Vals (ns.map V.int) us
  | _, _, .nil => by rw [List.map_nil]; exact Paired.nil
  | _, _, .cons n t h => by rw [List.map_cons]; exact Paired.cons (show RelV (V.int n) (Value.int n t) from ⟨t, rfl⟩) (vals_of_ints h)
theorem Vals.strs : ∀ {xs : List Str} {us : List Value}, Vals (xs.map V.str) us → StrsAre us xs
  | [], us, h => by
    rw [List.map_nil] at h
    cases h
    exact StrsAre.nil
  | x :: xs, us, h => by
    rw [List.map_cons] at h
    cases h with
    | cons r t =>
      obtain ⟨k, rfl⟩ := r
      exact StrsAre.cons x k (Vals.strs t)
theorem Vals.bls : ∀ {bs : List Bool} {us : List Value}, Vals (bs.map V.bl) us → us = bs.map Value.bool
  | [], us, h => by
    rw [List.map_nil] at h
    cases h
    rfl
  | b :: bs, us, h => by
    rw [List.map_cons] at h
    cases h with
    | cons r t =>
      cases r
      rw [Vals.bls t, List.map_cons]
theorem Vals.ref1 {a : Addr} {us : List Value} (r : Vals [V.ref a] us) : us = [Value.ref a] := by
  cases r with
  | cons r t =>
    cases t
    cases r
    rfl
/-! ### the library's walks over a list of ints, kept objects alone -/
section
variable {prog : Program} {w : World} {A : Around} {E : Value → Shared → Prop} {s : Shared} {l : Addr} {its : List Value} {ns : List Int} {Q : Value → Shared → Prop}
end

/-! ### the calls, by values (CallR of 03t; MtR of 06l) -/
section
variable {X : Cx}
/-- sum(xs) of a list of ints -/
def rSum (K : PySem.W.Frag) : List V → Hp → VK → Prop := fun vs H Q => ∃ (a : Addr) (ns : List Int), vs = [V.ref a] ∧ SqL K H a (ns.map V.int) ∧ Q (.int ns.sum) H
/-- max(xs), min(xs) of a list of ints -/
def rMax (K : PySem.W.Frag) : List V → Hp → VK → Prop := fun vs H Q => ∃ (a : Addr) (ns : List Int), vs = [V.ref a] ∧ SqL K H a (ns.map V.int) ∧ 0 < ns.length ∧ ∀ m, m ∈ ns → (∀ y, y ∈ ns → y ≤ m) → Q (.int m) H
def rMin (K : PySem.W.Frag) : List V → Hp → VK → Prop := fun vs H Q => ∃ (a : Addr) (ns : List Int), vs = [V.ref a] ∧ SqL K H a (ns.map V.int) ∧ 0 < ns.length ∧ ∀ m, m ∈ ns → (∀ y, y ∈ ns → m ≤ y) → Q (.int m) H
/-! sorted, sort (fewer than 64 items: the library's own bound) -/
def rSorted (K : PySem.W.Frag) : List V → Hp → VK → Prop := fun vs H Q => ∃ (a : Addr) (ns : List Int), vs = [V.ref a] ∧ SqL K H a (ns.map V.int) ∧ ns.length < 64 ∧
  ∀ (ns' : List Int) (p : Addr), ns'.Perm ns → ns'.Pairwise (· ≤ ·) → H p = none → Q (.ref p) (upd H p (.lst (ns'.map V.int)))
def rSortedS (K : PySem.W.Frag) : List V → Hp → VK → Prop := fun vs H Q => ∃ (a : Addr) (xs : List Str), vs = [V.ref a] ∧ SqL K H a (xs.map V.str) ∧ xs.length < 64 ∧
  ∀ (ys : List Str) (p : Addr), ys.Perm xs → sortedS ys = true → H p = none → Q (.ref p) (upd H p (.lst (ys.map V.str)))
/-- xs.sort(), ints -/
def rSort : V → List V → Hp → VK → Prop := fun x xs H Q => ∃ (a : Addr) (ns : List Int), x = V.ref a ∧ xs = [] ∧ H a = some (.lst (ns.map V.int)) ∧ ns.length < 64 ∧
  ∀ ns' : List Int, ns'.Perm ns → ns'.Pairwise (· ≤ ·) → Q .non (upd H a (.lst (ns'.map V.int)))
end

/-! ### list.index, flat items -/
section
variable {X : Cx}
def rIndex (K : PySem.W.Frag) : V → List V → Hp → VK → Prop := fun x xs H Q => ∃ (a : Addr) (ys : List V) (y : V) (j : Nat) (z : V), x = V.ref a ∧ xs = [y] ∧ SqL K H a ys ∧ flatV y = true ∧ ys.all flatV = true ∧ ys[j]? = some z ∧ eqV z y = true ∧
  (∀ (m : Nat) (z' : V), m < j → ys[m]? = some z' → eqV z' y = false) ∧ Q (.int (j : Nat)) H
end

/-! ### type(x) of an own instance; is, is not of a module's class -/
section
variable {X : Cx}
end

/-! ### any(xs), all(xs) of a list of bools -/
theorem iter_any {prog : Program} {w : World} {A : Around} {E : Value → Shared → Prop} {s : Shared} {l : Addr} {items : Array Value} {Q : Value → Shared → Prop} (hl : s.heap.IsList l items)
    (h : ∀ s₂ : Shared, s₂ = { s with heap := s.heap.push { cls := .type "list_iterator", data := .fields #[.ref l, .int 0 0] } } →
      (s₂.heap.IsListIter s.heap.objs.size l 0 ∧ s₂.heap.IsList l items) → l ≠ s.heap.objs.size → Q (.ref s.heap.objs.size) s₂) : wpAny (model prog w) A (pyIter (.ref l)) Q E s := by
  have hlt : l < s.heap.objs.size := by obtain ⟨_, e, _⟩ := hl; exact Heap.lt_size e
  exact wpAny_pyIter_list hl (h _ rfl ⟨⟨_, Heap.get?_push_size _ rfl, rfl, rfl⟩, hl.push _⟩ (Nat.ne_of_lt hlt))
theorem truth_bools {prog : Program} {w : World} {A : Around} {bs : List Bool} {its : List Value} (e : its = bs.map Value.bool) :
    TruthOf prog w A (fun i v => its.toArray[i]? = some v) (fun i => bs.getD i false) := fun i v s Q E hv hq => by
  have hv' : its[i]? = some v := by simpa using hv
  rw [e, List.getElem?_map] at hv'
  obtain ⟨b, hb, rfl⟩ := Option.map_eq_some_iff.mp hv'
  have hg : bs.getD i false = b := by rw [List.getD_eq_getElem?_getD, hb] <;> rfl
  have hq' : Q (bs.getD i false) s := hq
  rw [hg] at hq'
  exact wpAny_truthy_bool hq'
theorem any_range : ∀ bs : List Bool, (List.range bs.length).any (fun i => bs.getD i false) = bs.any id
  | [] => rfl
  | b :: bs => by
    rw [List.length_cons, List.range_succ_eq_map, List.any_cons, List.any_map, List.any_cons, ← any_range bs]
    all_goals rfl
theorem all_range : ∀ bs : List Bool, (List.range bs.length).all (fun i => bs.getD i false) = bs.all id
  | [] => rfl
  | b :: bs => by
    rw [List.length_cons, List.range_succ_eq_map, List.all_cons, List.all_map, List.all_cons, ← all_range bs]
    all_goals rfl
section
variable {X : Cx}
def rAny (K : PySem.W.Frag) : List V → Hp → VK → Prop := fun vs H Q => ∃ (a : Addr) (bs : List Bool), vs = [V.ref a] ∧ SqL K H a (bs.map V.bl) ∧ Q (.bl (bs.any id)) H
def rAll (K : PySem.W.Frag) : List V → Hp → VK → Prop := fun vs H Q => ∃ (a : Addr) (bs : List Bool), vs = [V.ref a] ∧ SqL K H a (bs.map V.bl) ∧ Q (.bl (bs.all id)) H
theorem cr_all (hc : X.calm = true) : CallR X (.builtin "all") (rAll X.K) := by
  intro pins s σ H vs us Q I r h
  obtain ⟨a, bs, rfl, hs, q⟩ := h
  obtain ⟨its, rv, hl, _⟩ := I.list hs
  rw [Vals.ref1 r]
  have hb := rv.bls
  refine call_all_walk (iter_any hl.isList fun s₂ e2 st hne => ?_)
  subst e2
  refine ⟨_, _, _, _, _, _, _, rfl, Walks.list (A := X.A.in1) (I.ok.hd hc) _ a hne its.toArray, st, truth_bools hb, fun h' tk hk => ?_⟩
  refine ⟨.bl _, H, I.kept fun b o eo => hk b o (fun hmem => ?_) (Heap.get?_push_of_some _ eo), ?_, q⟩
  · rcases List.mem_cons.mp hmem with e1 | hmem
    · exact absurd (e1 ▸ Heap.lt_size eo) (Nat.lt_irrefl _)
    · cases hmem
  · show Value.bool _ = Value.bool _
    rw [← all_range, hb, List.size_toArray, List.length_map]
end

/-! ### == and != of data at any depth: none, bools, ints, texts, lists, tuples -/
mutual
inductive Dp (K : PySem.W.Frag) (H : Hp) : V → PyData → Prop
  | non : Dp K H .non .none
  | bl (b : Bool) : Dp K H (.bl b) (.bool b)
  | int (i : Int) : Dp K H (.int i) (.int i)
  | str (x : Str) : Dp K H (.str x) (.str x)
  | lst {a : Addr} {xs : List V} {ds : List PyData} : SqL K H a xs → DpAll K H xs ds → Dp K H (.ref a) (.list ds)
  | tup {a : Addr} {xs : List V} {ds : List PyData} : SqT K H a xs → DpAll K H xs ds → Dp K H (.ref a) (.tuple ds)
inductive DpAll (K : PySem.W.Frag) (H : Hp) : List V → List PyData → Prop
  | nil : DpAll K H [] []
  | cons {v : V} {vs : List V} {d : PyData} {ds : List PyData} : Dp K H v d → DpAll K H vs ds → DpAll K H (v :: vs) (d :: ds)
end
section
variable {X : Cx} {pins : List (Addr × Obj)} {σ : St} {H : Hp} {s : Shared}
mutual
theorem Dp.reads (I : Inv X pins σ H s) : ∀ (d : PyData) (v : V) (u : Value), Dp X.K H v d → RelV v u → ∃ as, Reads s.heap u d as
  | .none, _, _, h, r => by
    cases h
    cases r
    exact ⟨_, Reads.none⟩
  | .bool b, _, _, h, r => by
    cases h
    cases r
    exact ⟨_, Reads.bool b⟩
  | .int i, _, _, h, r => by
    cases h
    obtain ⟨t, rfl⟩ := r
    exact ⟨_, Reads.int i t⟩
  | .str x, _, _, h, r => by
    cases h
    obtain ⟨t, rfl⟩ := r
    exact ⟨_, Reads.str x t⟩
  | .list ds, _, _, h, r => by
    cases h with
    | lst hs ha =>
      cases r
      obtain ⟨its, rv, ⟨o, n, ho, hc, _, hd⟩, _⟩ := I.list hs
      obtain ⟨as, hr⟩ := Dp.readsAll I ds _ its ha rv
      exact ⟨_, Reads.list ho hc hd hr⟩
  | .tuple ds, _, _, h, r => by
    cases h with
    | tup hs ha =>
      cases r
      obtain ⟨its, rv, ⟨o, ho, hc, n, hd⟩, _⟩ := I.tuple hs
      obtain ⟨as, hr⟩ := Dp.readsAll I ds _ its ha rv
      exact ⟨_, Reads.tuple ho hc hd hr⟩
  | .dict _, _, _, h, _ => by cases h
theorem Dp.readsAll (I : Inv X pins σ H s) : ∀ (ds : List PyData) (vs : List V) (us : List Value), DpAll X.K H vs ds → Vals vs us → ∃ as, ReadsAll s.heap us ds as
  | [], _, _, h, r => by
    cases h
    cases r
    exact ⟨_, ReadsAll.nil⟩
  | d :: ds, _, _, h, r => by
    cases h with
    | cons h1 h2 =>
      cases r with
      | cons r1 r2 =>
        obtain ⟨as, q1⟩ := Dp.reads I d _ _ h1 r1
        obtain ⟨bs, q2⟩ := Dp.readsAll I ds _ _ h2 r2
        exact ⟨_, ReadsAll.cons q1 q2⟩
end
end
section
variable {X : Cx}
def rEqD (K : PySem.W.Frag) : R2 := fun x y H Q => ∃ d e, Dp K H x d ∧ Dp K H y e ∧ SeqAt.shaped d = true ∧ SeqAt.shaped e = true ∧ Q (.bl (PyData.eqv d e)) H
def rNeD (K : PySem.W.Frag) : R2 := fun x y H Q => ∃ d e, Dp K H x d ∧ Dp K H y e ∧ SeqAt.shaped d = true ∧ SeqAt.shaped e = true ∧ Q (.bl (!PyData.eqv d e)) H
theorem op_eqD (hu : X.A.units + 64 < cLine) : OpR X (compareOp .Eq) (rEqD X.K) := by
  intro pins s σ H x y v u Q I rx ry h
  obtain ⟨d, e, hd, he, sd, se, q⟩ := h
  obtain ⟨as, r1⟩ := Dp.reads I d x v hd rx
  obtain ⟨bs, r2⟩ := Dp.reads I e y u he ry
  exact SeqAt.compareEq_shaped r1 r2 sd se hu ⟨.bl _, H, I, rfl, q⟩
theorem op_neD (hu : X.A.units + 64 < cLine) : OpR X (compareOp .NotEq) (rNeD X.K) := by
  intro pins s σ H x y v u Q I rx ry h
  obtain ⟨d, e, hd, he, sd, se, q⟩ := h
  obtain ⟨as, r1⟩ := Dp.reads I d x v hd rx
  obtain ⟨bs, r2⟩ := Dp.reads I e y u he ry
  exact SeqAt.compareNe_shaped r1 r2 sd se hu ⟨.bl _, H, I, rfl, q⟩
end
end L2

namespace L2
open PySem PySem.Spec PyProof.Rows
abbrev CellAt (h : Heap) (c : Addr) (v : Option Value) : Prop := h.IsCell c v
def relS (scope sc : Scope) : Scope :=
  { scope with names := scope.names.map fun (n, k) => if (k == .free && sc.kind == .function && sc.names.lookup n == some .cell) then (n, .cell) else (n, k) }

def cloFrom (cells : List (Str × Addr)) : List (Str × NameKind) → List (Str × Addr) → List (Str × Addr)
  | [], acc => acc
  | (n, k) :: r, acc => if k == .free then cloFrom cells r ((n, (cells.lookup n).getD 0) :: acc) else cloFrom cells r acc

theorem closure_loop (env : Env) (f : Str × NameKind → List (Str × Addr) → Sem (ForInStep (List (Str × Addr))))
    (hf : ∀ n k c, f (n, k) c = if k == .free then (do let a ← cellOf env n; pure (.yield ((n, a) :: c))) else pure (.yield c)) :
    ∀ (names : List (Str × NameKind)) (acc : List (Str × Addr)), (∀ y ∈ names, y.2 = .free → ∃ c, env.cells.lookup y.1 = some c) → forIn names acc f = pure (cloFrom env.cells names acc)
  | [], acc, _ => by rw [List.forIn_nil]; rfl
  | (n, k) :: r, acc, h => by
    rw [List.forIn_cons, hf]
    have ih := fun acc => closure_loop env f hf r acc fun y hy => h y (List.mem_cons_of_mem _ hy)
    unfold cloFrom
    by_cases hk : (k == NameKind.free) = true
    · rw [if_pos hk, if_pos hk]
      obtain ⟨c, hc⟩ := h (n, k) List.mem_cons_self (by simpa using hk)
      have e : cellOf env n = pure c := by unfold cellOf; rw [hc]
      rw [e]
      have e2 : (env.cells.lookup n).getD 0 = c := by rw [hc]; rfl
      rw [e2]
      exact ih _
    · rw [if_neg hk, if_neg hk]
      exact ih _
theorem closure_ok {scope : Scope} {env : Env} (h : ∀ y ∈ scope.names, y.2 = .free → ∃ c, env.cells.lookup y.1 = some c) : closureFor scope env = pure (cloFrom env.cells scope.names []) := by
  simp only [closureFor]
  rw [closure_loop env _ (fun n k c => rfl) scope.names [] h]
  rfl

theorem mem_lookup {α : Type} : ∀ {l : List (Str × α)} {n : Str} {c : α}, (n, c) ∈ l → ∃ c', l.lookup n = some c'
  | (k, v) :: r, n, c, h => by
    rw [List.lookup_cons]
    cases hb : n == k with
    | true => exact ⟨_, rfl⟩
    | false =>
      rcases List.mem_cons.mp h with e | h
      · cases e; simp at hb
      · exact mem_lookup h

theorem cloFrom_mem {cells : List (Str × Addr)} : ∀ {names : List (Str × NameKind)} {acc : List (Str × Addr)} {n : Str} {c : Addr}, (n, c) ∈ cloFrom cells names acc → (n, c) ∈ acc ∨ ((n, .free) ∈ names ∧ c = (cells.lookup n).getD 0)
  | [], _, _, _, h => .inl h
  | (m, k) :: r, acc, n, c, h => by
    unfold cloFrom at h
    split at h
    · rename_i hk
      have hk : k = .free := by simpa using hk
      rcases cloFrom_mem h with h | ⟨h1, h2⟩
      · rcases List.mem_cons.mp h with e | h
        · cases e; exact .inr ⟨hk ▸ List.mem_cons_self, rfl⟩
        · exact .inl h
      · exact .inr ⟨List.mem_cons_of_mem _ h1, h2⟩
    · rcases cloFrom_mem h with h | ⟨h1, h2⟩
      · exact .inl h
      · exact .inr ⟨List.mem_cons_of_mem _ h1, h2⟩
theorem cloFrom_acc {cells : List (Str × Addr)} : ∀ {names : List (Str × NameKind)} {acc : List (Str × Addr)} {p : Str × Addr}, p ∈ acc → p ∈ cloFrom cells names acc
  | [], _, _, h => h
  | (m, k) :: r, acc, p, h => by
    unfold cloFrom
    split
    · exact cloFrom_acc (List.mem_cons_of_mem _ h)
    · exact cloFrom_acc h
theorem cloFrom_has {cells : List (Str × Addr)} : ∀ {names : List (Str × NameKind)} {acc : List (Str × Addr)} {n : Str}, (n, .free) ∈ names → (n, (cells.lookup n).getD 0) ∈ cloFrom cells names acc
  | (m, k) :: r, acc, n, h => by
    unfold cloFrom
    rcases List.mem_cons.mp h with e | h
    · cases e
      exact cloFrom_acc List.mem_cons_self
    · split
      · exact cloFrom_has h
      · exact cloFrom_has h

theorem cells_mem : ∀ {names : List (Str × NameKind)} {h : Heap} {acc : List (Str × Addr)} {x : Str} {c : Addr}, (x, c) ∈ cellsFrom h.objs.size names acc →
    (x, c) ∈ acc ∨ ((x, .cell) ∈ names ∧ h.objs.size ≤ c ∧ CellAt (pushCells h names) c none)
  | [], _, _, _, _, h => .inl h
  | (n, k) :: r, h, acc, x, c, hm => by
    unfold cellsFrom at hm
    unfold pushCells
    split at hm
    · rename_i hk
      rw [if_pos hk]
      have hk : k = .cell := by simpa using hk
      rw [← Heap.size_push h { cls := .type "cell", data := .cell none }] at hm
      rcases cells_mem hm with hm | ⟨h1, h2, h3⟩
      · rcases List.mem_cons.mp hm with e | hm
        · cases e
          exact .inr ⟨hk ▸ List.mem_cons_self, Nat.le_refl _, _, pushCells_keeps r _ _ _ (Heap.get?_push_size _ rfl), rfl⟩
        · exact .inl hm
      · rw [Heap.size_push] at h2
        exact .inr ⟨List.mem_cons_of_mem _ h1, Nat.le_of_succ_le h2, h3⟩
    · rename_i hk
      rw [if_neg hk]
      rcases cells_mem hm with hm | ⟨h1, h2, h3⟩
      · exact .inl hm
      · exact .inr ⟨List.mem_cons_of_mem _ h1, h2, h3⟩
theorem cells_acc : ∀ {names : List (Str × NameKind)} {n : Nat} {acc : List (Str × Addr)} {p : Str × Addr}, p ∈ acc → p ∈ cellsFrom n names acc
  | [], _, _, _, h => h
  | (m, k) :: r, n, acc, p, h => by
    unfold cellsFrom
    split
    · exact cells_acc (List.mem_cons_of_mem _ h)
    · exact cells_acc h
theorem cells_has : ∀ {names : List (Str × NameKind)} {n : Nat} {acc : List (Str × Addr)} {x : Str}, (x, .cell) ∈ names → ∃ c, (x, c) ∈ cellsFrom n names acc
  | (m, k) :: r, n, acc, x, h => by
    unfold cellsFrom
    rcases List.mem_cons.mp h with e | h
    · cases e
      exact ⟨n, cells_acc List.mem_cons_self⟩
    · split
      · exact cells_has h
      · exact cells_has h
theorem cells_inj : ∀ {names : List (Str × NameKind)} {h : Heap} {acc : List (Str × Addr)} {x y : Str} {c : Addr}, (∀ p ∈ acc, p.2 < h.objs.size) → (∀ x y c, (x, c) ∈ acc → (y, c) ∈ acc → x = y) →
    (x, c) ∈ cellsFrom h.objs.size names acc → (y, c) ∈ cellsFrom h.objs.size names acc → x = y
  | [], _, _, _, _, _, _, hi, h1, h2 => hi _ _ _ h1 h2
  | (n, k) :: r, h, acc, x, y, c, hl, hi, h1, h2 => by
    unfold cellsFrom at h1 h2
    split at h1
    · rename_i hk
      rw [if_pos hk] at h2
      rw [← Heap.size_push h { cls := .type "cell", data := .cell none }] at h1 h2
      refine cells_inj (h := h.push _) (fun p hp => ?_) (fun x y c a b => ?_) h1 h2
      · rw [Heap.size_push]
        rcases List.mem_cons.mp hp with rfl | hp
        · exact Nat.lt_succ_self _
        · exact Nat.lt_succ_of_lt (hl p hp)
      · rcases List.mem_cons.mp a with e | a <;> rcases List.mem_cons.mp b with e' | b
        · cases e; cases e'; rfl
        · cases e; exact absurd (hl _ b) (Nat.lt_irrefl _)
        · cases e'; exact absurd (hl _ a) (Nat.lt_irrefl _)
        · exact hi _ _ _ a b
    · rename_i hk
      rw [if_neg hk] at h2
      exact cells_inj hl hi h1 h2

theorem newEnv_comp {M : Model} {A : Around} {E : Value → Shared → Prop} {s : Shared} {scope : Scope} {globals : Addr} {closure : List (Str × Addr)} {qual : Str} {func : Option Addr} {code : Value} {around : Env} {builtins : Addr} {Q : Env → Shared → Prop}
    (h : Q (newEnv scope s.heap.objs.size globals (cellsFrom (s.heap.objs.size + 1) scope.names closure) qual func code (some around) builtins)
      { s with heap := pushCells (s.heap.push { cls := .type "dict", data := .dict #[] }) scope.names }) :
    wpAny M A (newFunctionEnv scope globals closure [] qual func code (some around) builtins) Q E s := by
  simp only [newFunctionEnv, Option.isSome_some, if_true]
  refine wpAny_bind (wpAny_alloc ?_)
  refine wpAny_bind (wpAny_layCells _ (fun n k c => rfl) scope.names closure _ _ ?_)
  rw [show ({ s with heap := s.heap.push { cls := .type "dict", data := .dict #[] } } : Shared).heap.objs.size = s.heap.objs.size + 1 from Heap.size_push ..]
  rw [List.forIn_nil]
  exact wpAny_bind (wpAny_pure (wpAny_pure h))

/-- every name of the written scope, in the scope that runs -/
theorem lookup_relS {sc : Scope} : ∀ {names : List (Str × NameKind)} {x : Str} {k : NameKind},
    (names.map fun (n, k) => if (k == NameKind.free && sc.kind == .function && sc.names.lookup n == some .cell) then (n, NameKind.cell) else (n, k)).lookup x = some k →
    ∃ k', names.lookup x = some k' ∧ (k = k' ∨ (k' = .free ∧ k = .cell))
  | [], _, _, h => by simp at h
  | (n, k₀) :: r, x, k, h => by
    have ih := @lookup_relS sc r x k
    have h' : List.lookup x ((if (k₀ == NameKind.free && sc.kind == .function && sc.names.lookup n == some .cell) = true then (n, NameKind.cell) else (n, k₀)) :: (r.map _)) = some k := h
    cases hx : x == n with
    | true =>
      simp only [List.lookup_cons, hx]
      by_cases hc : (k₀ == NameKind.free && sc.kind == .function && sc.names.lookup n == some .cell) = true
      · rw [if_pos hc] at h'
        simp only [List.lookup_cons, hx] at h'
        cases h'
        simp only [Bool.and_eq_true, beq_iff_eq] at hc
        exact ⟨k₀, rfl, .inr ⟨hc.1.1, rfl⟩⟩
      · rw [if_neg hc] at h'
        simp only [List.lookup_cons, hx] at h'
        cases h'
        exact ⟨_, rfl, .inl rfl⟩
    | false =>
      simp only [List.lookup_cons, hx]
      by_cases hc : (k₀ == NameKind.free && sc.kind == .function && sc.names.lookup n == some .cell) = true
      · rw [if_pos hc] at h'
        simp only [List.lookup_cons, hx] at h'
        exact ih h'
      · rw [if_neg hc] at h'
        simp only [List.lookup_cons, hx] at h'
        exact ih h'
/-- the names of a comprehension's block: its own (with their places in N), or captured -/
structure BlkOk (N : List Str) (sc scope : Scope) (own : List (Str × Nat)) : Prop where
  kind : scope.kind = .function
  uniq : ∀ y ∈ scope.names, scope.names.lookup y.1 = some y.2
  ix : ∀ p ∈ own, N[p.2]? = some p.1
  free : ∀ y ∈ scope.names, y.2 = .free → sc.names.lookup y.1 = some .cell ∨ sc.names.lookup y.1 = some .free
  own : ∀ y ∈ scope.names, y.2 = .local ∨ y.2 = .cell → y.1 ∈ own.map (·.1) ∨ y.1 ∉ N
/-- the slots of the block's own names forgotten -/
def wipe (σ : St) : List Nat → St
  | [] => σ
  | v :: vs => (wipe σ vs).set v none
theorem wipe_length (σ : St) : ∀ vs : List Nat, (wipe σ vs).length = σ.length
  | [] => rfl
  | v :: vs => by unfold wipe; rw [List.length_set, wipe_length σ vs]
theorem wipe_some {σ : St} {i : Nat} {x : V} : ∀ {vs : List Nat}, (wipe σ vs)[i]? = some (some x) → σ[i]? = some (some x) ∧ i ∉ vs
  | [], h => ⟨h, by simp⟩
  | v :: vs, h => by
    unfold wipe at h
    by_cases hi : v = i
    · subst hi
      by_cases hv : v < (wipe σ vs).length
      · rw [List.getElem?_set_self hv] at h; cases h
      · rw [List.getElem?_eq_none (by simpa using hv)] at h; cases h
    · rw [List.getElem?_set_ne hi] at h
      obtain ⟨h1, h2⟩ := wipe_some h
      exact ⟨h1, by simp only [List.mem_cons, not_or]; exact ⟨fun e => hi e.symm, h2⟩⟩

/-- the context of a block that starts at s, its iterator's objects at fp -/
abbrev Cx.blk (X : Cx) (s : Shared) (H : Hp) (scope : Scope) (cenv : Env) (fp : List Addr) : Cx := { X with s_0 := s, H_0 := H, env := cenv, outer := X.stack, ex := fp, fn := fun x => scope.names.lookup x == some .cell, pn := [], xe := fun _ _ => False }
section
variable {X : Cx} {pins : List (Addr × Obj)} {σ : St} {H : Hp} {s : Shared}
theorem block_start {scope : Scope} {own : List (Str × Nat)} {fp : List Addr} (I : Inv X pins σ H s) (ok : BlkOk X.N X.env.scope scope own) (hN : X.N.Nodup) (hfp : ∀ b ∈ fp, FpOk X pins H b ∧ b < s.heap.objs.size) :
    Inv (X.blk s H scope (compEnvC scope (cellsFrom (s.heap.objs.size + 1) scope.names (cloFrom X.env.cells scope.names [])) s.heap.objs.size X.env) fp) [] (wipe σ (own.map (·.2))) H { s with heap := pushCells (s.heap.push { cls := .type "dict", data := .dict #[] }) scope.names } := by
  have hfree : ∀ y ∈ scope.names, y.2 = .free → ∃ c, X.env.cells.lookup y.1 = some c := fun y hy e => by
    rcases ok.free y hy e with k | k
    · exact I.ok.has _ (.inl k)
    · exact I.ok.has _ (.inr k)
  generalize hcenv : compEnvC scope (cellsFrom (s.heap.objs.size + 1) scope.names (cloFrom X.env.cells scope.names [])) s.heap.objs.size X.env = cenv
  have kp : ∀ b o, s.heap.get? b = some o → (pushCells (s.heap.push { cls := .type "dict", data := .dict #[] }) scope.names).get? b = some o := fun b o e => pushCells_keeps _ _ _ _ (Heap.get?_push_of_some _ e)
  have hL : cenv.locals = s.heap.objs.size := by rw [← hcenv]; rfl
  have hcl : cenv.cells = cellsFrom (s.heap.objs.size + 1) scope.names (cloFrom X.env.cells scope.names []) := by rw [← hcenv]; rfl
  have hsc : cenv.scope = relS scope X.env.scope := by rw [← hcenv]; rfl
  rw [← Heap.size_push s.heap { cls := .type "dict", data := .dict #[] }] at hcl
  have cm : ∀ {y c}, (y, c) ∈ cloFrom X.env.cells scope.names [] → X.env.cells.lookup y = some c ∧ c < s.heap.objs.size := fun {y c} hm => by
    rcases cloFrom_mem hm with hm | ⟨h1, rfl⟩
    · cases hm
    · obtain ⟨c, hc⟩ := hfree _ h1 rfl
      rw [hc]
      obtain ⟨w, z⟩ := I.cell _ _ hc
      exact ⟨rfl, z.lt⟩
  have mem : ∀ {y c}, cenv.cells.lookup y = some c → (X.env.cells.lookup y = some c ∧ c < s.heap.objs.size) ∨ (s.heap.objs.size + 1 ≤ c ∧ CellAt (pushCells (s.heap.push { cls := .type "dict", data := .dict #[] }) scope.names) c none) := fun {y c} e => by
    rw [hcl] at e
    rcases cells_mem (PySem.mem_of_lookup e) with hm | ⟨_, h2, h3⟩
    · exact .inl (cm hm)
    · rw [Heap.size_push] at h2; exact .inr ⟨h2, h3⟩
  have look : ∀ {y}, scope.names.lookup y = some .free → ∃ c, cenv.cells.lookup y = some c ∧ X.env.cells.lookup y = some c := fun {y} hl => by
    have hy : (y, NameKind.free) ∈ scope.names := PySem.mem_of_lookup hl
    obtain ⟨c', e'⟩ := mem_lookup (cells_acc (names := scope.names) (n := (s.heap.push { cls := .type "dict", data := .dict #[] }).objs.size) (cloFrom_has (cells := X.env.cells) (acc := []) hy))
    rw [← hcl] at e'
    refine ⟨c', e', ?_⟩
    rw [hcl] at e'
    rcases cells_mem (PySem.mem_of_lookup e') with hm | ⟨h1, _, _⟩
    · exact (cm hm).1
    · have := ok.uniq _ h1
      rw [hl] at this; cases this
  have okB : (X.blk s H scope cenv fp).Ok := by
    refine ⟨I.ok.mod, by show cenv.scope.kind = _; rw [hsc]; exact ok.kind, by show cenv.globals = _; rw [← hcenv]; exact I.ok.glob, by show cenv.builtins = _; rw [← hcenv]; exact I.ok.blt, by show s.heap.objs.size ≤ cenv.locals; rw [hL]; exact Nat.le_refl _,
      fun y z c e1 e2 => ?_, fun y hy => ?_, fun y c z e => ?_, I.ok.hd, I.ok.frames, .inl rfl, fun b hb => ⟨?_, fun y c e z => ?_⟩, I.bs, Nat.le_trans I.ok.bsz I.sz, fun b o e hb => ?_, fun b hb z => ?_, I.stack, I.stkFree⟩
    · have e1 : cenv.cells.lookup y = some c := e1
      have e2 : cenv.cells.lookup z = some c := e2
      rw [hcl] at e1 e2
      refine cells_inj (fun p hp => ?_) (fun y z c a b => I.ok.inj y z c (cm a).1 (cm b).1) (PySem.mem_of_lookup e1) (PySem.mem_of_lookup e2)
      rw [Heap.size_push]
      exact Nat.lt_succ_of_lt (cm (y := p.1) (c := p.2) hp).2
    · show ∃ c, cenv.cells.lookup y = some c
      have key : ∀ k, cenv.kindOf y = some k → (k = .cell ∨ k = .free) → ∃ c, cenv.cells.lookup y = some c := fun k hk hk' => by
        unfold Env.kindOf at hk
        rw [hsc] at hk
        obtain ⟨k', e, r⟩ := lookup_relS hk
        have : k' = .cell ∨ k' = .free := by
          rcases r with rfl | ⟨rfl, _⟩
          · exact hk'
          · exact .inr rfl
        rcases this with rfl | rfl
        · obtain ⟨c, hm⟩ := cells_has (n := (s.heap.push { cls := .type "dict", data := .dict #[] }).objs.size) (acc := cloFrom X.env.cells scope.names []) (PySem.mem_of_lookup e)
          obtain ⟨c', e'⟩ := mem_lookup hm
          exact ⟨c', by rw [hcl]; exact e'⟩
        · obtain ⟨c, h1, _⟩ := look e
          exact ⟨c, h1⟩
      rcases hy with hy | hy
      · exact key _ hy (.inl rfl)
      · exact key _ hy (.inr rfl)
    · have z : (scope.names.lookup y == some NameKind.cell) = true := z
      have z : scope.names.lookup y = some .cell := by simpa using z
      have e : cenv.cells.lookup y = some c := e
      rw [hcl] at e
      rcases cells_mem (PySem.mem_of_lookup e) with hm | ⟨_, h2, _⟩
      · rcases cloFrom_mem hm with hm | ⟨h1, _⟩
        · cases hm
        · have q := ok.uniq _ h1
          rw [z] at q; cases q
      · rw [Heap.size_push] at h2
        exact Nat.le_of_succ_le h2
    · show b ≠ cenv.locals
      rw [hL]; exact Nat.ne_of_lt (hfp b hb).2
    · have e : cenv.cells.lookup y = some c := e
      rcases mem e with ⟨h1, _⟩ | ⟨h1, _⟩
      · exact (hfp b hb).1.2.2.2.2.1 y c h1 z
      · have h2 : s.heap.objs.size + 1 ≤ b := by rw [← z]; exact h1
        exact absurd (Nat.lt_of_lt_of_le (hfp b hb).2 (Nat.le_of_succ_le h2)) (Nat.lt_irrefl _)
    · rcases (hfp b hb).1.2.2.2.1 with z | z
      · exact I.ok.noex b o e z
      · exact absurd (Nat.lt_of_lt_of_le (Heap.lt_size e) (Nat.le_trans I.ok.bsz z)) (Nat.lt_irrefl _)
    · rcases List.mem_cons.mp (I.stkSub b z) with z | z
      · exact (hfp b hb).1.2.1 z
      · exact (hfp b hb).1.2.2.1 z
  refine ⟨okB, rfl, I.bare, Un.kept kp, ⟨fun _ => none, ?_, fun i y av e1 e2 e3 => ?_⟩, fun y c e => ?_, ?_, fun y c e => ?_, fun p hp => ?_, I.hok.kept kp, by rw [wipe_length]; exact I.len⟩
  · show Heap.Ns _ cenv.locals _
    rw [hL]
    exact Heap.Ns.keeps (Heap.Ns.new ..) fun b o e => pushCells_keeps _ _ _ _ e
  · obtain ⟨e2, hne⟩ := wipe_some e2
    have hfr : scope.names.lookup y = some .free ∧ (cenv.kindOf y = some .cell ∨ cenv.kindOf y = some .free) := by
      have key : ∀ k, cenv.scope.names.lookup y = some k → k = .local ∨ k = .cell ∨ k = .free → scope.names.lookup y = some .free ∧ (cenv.kindOf y = some .cell ∨ cenv.kindOf y = some .free) := fun k hk hk' => by
        have hk0 := hk
        rw [hsc] at hk
        obtain ⟨k', e, r⟩ := lookup_relS hk
        have no : ¬ (k' = .local ∨ k' = .cell) := fun hh => by
          rcases ok.own _ (PySem.mem_of_lookup e) hh with e' | e'
          · obtain ⟨p, hp, hpy⟩ := List.mem_map.mp e'
            have e3 := ok.ix p hp
            have : p.1 = y := hpy
            rw [this] at e3
            exact hne (List.mem_map.mpr ⟨p, hp, nodup_ix hN e3 e1⟩)
          · exact e' (List.mem_of_getElem? e1)
        rcases r with rfl | ⟨rfl, rfl⟩
        · rcases hk' with rfl | rfl | rfl
          · exact absurd (.inl rfl) no
          · exact absurd (.inr rfl) no
          · exact ⟨e, .inr hk0⟩
        · exact ⟨e, .inl hk0⟩
      have e3 : Vis cenv.scope y := e3
      rcases e3 with e3 | e3 | e3
      · exact key _ e3 (.inl rfl)
      · exact key _ e3 (.inr (.inl rfl))
      · exact key _ e3 (.inr (.inr rfl))
    obtain ⟨m, hn, hl⟩ := I.loc
    have hvis : Vis X.env.scope y := (ok.free _ (PySem.mem_of_lookup hfr.1) rfl).elim (fun k => .inr (.inl k)) (fun k => .inr (.inr k))
    obtain ⟨w, r, q⟩ := hl i y av e1 e2 hvis
    refine ⟨w, r, .inr ⟨hfr.2, ?_⟩⟩
    obtain ⟨c, h1, h2⟩ := look hfr.1
    rcases q with ⟨k, _⟩ | ⟨_, c', e', z⟩
    · have k : X.env.scope.names.lookup y = some .local := k
      rcases ok.free _ (PySem.mem_of_lookup hfr.1) rfl with k' | k' <;> rw [show X.env.scope.names.lookup y = _ from k'] at k <;> cases k
    · rw [h2] at e'; cases e'
      exact ⟨c, h1, z.keeps kp⟩
  · have e : cenv.cells.lookup y = some c := e
    rcases mem e with ⟨h1, _⟩ | ⟨_, z⟩
    · obtain ⟨w, z⟩ := I.cell y c h1
      exact ⟨w, z.keeps kp⟩
    · exact ⟨_, z⟩
  · show H cenv.locals = none
    rw [hL]; exact I.hok.fresh (Nat.le_refl _)
  · have e : cenv.cells.lookup y = some c := e
    rcases mem e with ⟨h1, _⟩ | ⟨h1, _⟩
    · exact I.freeC y c h1
    · exact I.hok.fresh (Nat.le_of_succ_le h1)
  · exact absurd (show p ∈ ([] : List (Addr × Obj)) ++ [] from hp) (by simp)

/-- an item appended to a tracked list -/
theorem app_ok {E : Value → Shared → Prop} {D : Addr} {xs : List V} {y : V} {v : Value} {Q : Value → Shared → Prop} (I : Inv X pins σ H s) (hD : H D = some (.lst xs)) (hz : xs.length < sizeLine) (r : RelV y v)
    (h : ∀ s', Inv X pins σ (upd H D (.lst (xs ++ [y]))) s' → Q .none s') : wpAny (model X.prog X.w) X.A (call (.builtin "list.append") [.ref D, v]) Q E s := by
  obtain ⟨hz', its, n, ri, e⟩ := I.hok D _ hD
  have hl := ri.length
  refine append_at (hsz := by rw [List.size_toArray]; omega) e fun h' sb ho' => ?_
  refine h { s with heap := h' } (I.write (t' := s.toks) (by rw [hD]; trivial) (.inl rfl) (fun b u hb q => (sb.2 b hb).trans q) ⟨_, ho'⟩ ⟨by rw [List.length_append]; exact hz, its ++ [v], n + 1, ri.append (.cons r .nil), ?_⟩)
  rw [ho']
  simp

/-- a clause's tests -/
def PTs (X : Cx) (ifs : List Expr) (t : TT) : Prop :=
  ∀ (pins : List (Addr × Obj)) (s : Shared) (σ : St) (H : Hp) (Q : Bool → Hp → Prop), Inv X pins σ H s → t σ H Q →
    wpAny (model X.prog X.w) X.A (forIn ifs true fun c r => if r = true then do let ok ← isTrue c X.env (eval c X.env); pure (ForInStep.yield ok) else pure (ForInStep.yield r)) (TP X pins σ Q) X.xe s
def tYes : TT := fun _ H Q => Q true H
theorem pts_nil : PTs X [] tYes := fun _ _ _ H _ I h => wpAny_tests_nil ⟨H, I, h⟩
end

theorem thnF {α : Type} {t : Sem α} {Q Q' : α → Shared → Prop} {M : Model} {A : Around} {E : Value → Shared → Prop} {s : Shared} (h : wpAny M A t Q (fun _ _ => False) s) (hQ : ∀ a s, Q a s → Q' a s) : wpAny M A t Q' E s := wpAny_mono h hQ fun _ _ z => False.elim z

/-- the loop of a list comprehension's block, the target of any form (codeAny_compLoop_tests asks a target that no tuple goes to; statement and proof follow it, PyProof/CompMap.lean:41-61, with the step letOwnedTupleGo kept) -/
theorem compLoop_any {prog : Program} {w : World} {A : Around} {R : Result → Shared → Prop} {s : Shared} {elt target iter : Expr} {ifs : List Expr} {scope : Scope} {pos : Pos} {it acc : Value} {env : Env} (I : Nat → Shared → Prop)
    (turn : ∀ n s, I n s → wpAny (model prog w) A (pyNext it) (fun r s₁ => match r with
      | none => R (.ok .next) s₁
      | some v => wpAny (model prog w) A (letOwnedTupleGo target it v) (fun _ s₁' => wpAny (model prog w) A (assign target env v) (fun _ s₂ =>
          wpAny (model prog w) A (forIn ifs true fun c r => if r = true then do let ok ← isTrue c env (eval c env); pure (ForInStep.yield ok) else pure (ForInStep.yield r)) (fun ok s₃ =>
            if ok = true then wpAny (model prog w) A (eval elt env) (fun x s₄ =>
              wpAny (model prog w) A (call (.builtin "list.append") [acc, x]) (fun _ s₅ => ∃ m, m < n ∧ I m s₅) (notedBy (model prog w) A env fun e s' => R (.error e) s') s₄) (notedBy (model prog w) A env fun e s' => R (.error e) s') s₃
            else ∃ m, m < n ∧ I m s₃) (notedBy (model prog w) A env fun e s' => R (.error e) s') s₂) (notedBy (model prog w) A env fun e s' => R (.error e) s') s₁') (notedBy (model prog w) A env fun e s' => R (.error e) s') s₁) (notedBy (model prog w) A env fun e s' => R (.error e) s') s)
    (n : Nat) (h : I n s) :
    codeAny (model prog w) A (.compLoop (.ListComp elt [⟨target, iter, ifs, 0⟩] scope pos) 0 it acc env) R s := by
  refine codeAny_loop rfl I (fun n s hI => ?_) n h
  show wpAny _ A ((compTurn (.ListComp elt [⟨target, iter, ifs, 0⟩] scope pos) 0 it acc env).onRaise (fun x => do noteFrame x env; theTreesLotGoes x)) _ _ s
  refine wpAny_noted ?_
  rw [compTurn_list]
  refine wpAny_bind (wpAny_standAt (wpAny_bind (wpAny_mono (turn n s hI) (fun r s₁ h₁ => ?_) fun _ _ h' => h')))
  cases r with
  | none => exact wpAny_pure h₁
  | some v =>
    refine wpAny_bind (wpAny_mono h₁ (fun _ s₁' h₁' => ?_) fun _ _ h' => h')
    refine wpAny_bind (wpAny_mono h₁' (fun _ s₂ h₂ => wpAny_bind (wpAny_mono h₂ (fun ok s₃ h₃ => ?_) fun _ _ h' => h')) fun _ _ h' => h')
    cases ok with
    | false => exact wpAny_pure ⟨rfl, h₃⟩
    | true =>
      exact wpAny_bind (wpAny_bind (wpAny_mono h₃ (fun x s₄ h₄ => wpAny_bind (wpAny_mono h₄ (fun _ s₅ h₅ => wpAny_pure (wpAny_pure ⟨rfl, h₅⟩)) fun _ _ h' => h')) fun _ _ h' => h'))

section
variable {X : Cx}
/-- [elt for target in iter if ..]: D the new list; W by the turn and a measure, Nx what a turn is to reach -/
def tLc (wi : TI) (g : TG) (tt : TT) (te : TE) (vs : List Nat) : TE := fun σ H Q => wi σ H fun J H1 => ∀ D, H1 D = none → ∃ W : Nat → Nat → Hp → Prop, (∃ m, W 0 m (upd H1 D (.lst []))) ∧ ∀ i m H, W i m H →
  (J.stop i H ∧ Q (.ref D) H) ∨ (J.go i H ∧ ∃ Nx : Hp → Prop, (∀ H', Nx H' → ∃ m', m' < m ∧ W (i + 1) m' H') ∧ ∀ x H', J.yld i H x H' → g x (wipe σ vs) H' fun σ2 H2 => wipe σ2 vs = wipe σ vs ∧ tt σ2 H2 fun b H3 =>
    if b = true then te σ2 H3 fun y H4 => ∃ acc, H4 D = some (.lst acc) ∧ acc.length < sizeLine ∧ Nx (upd H4 D (.lst (acc ++ [y]))) else Nx H3)
theorem lc_core {pins : List (Addr × Obj)} {s : Shared} {σ : St} {H : Hp} {Q : VK} {elt tg iter : Expr} {ifs : List Expr} {scope : Scope} {own : List (Str × Nat)} {pos pos' : Pos} {wi : TI} {g : TG} {tt : TT} {te : TE} {use : Option (Value → Sem Unit)} {Qf : Value → Shared → Prop}
    (hc : X.calm = true) (hN : X.N.Nodup) (I : Inv X pins σ H s) (hi : PI X tg iter wi) (ok : BlkOk X.N X.env.scope scope own)
    (hg : ∀ (s : Shared) (H : Hp) (C : Addr) (cl : List (Str × Addr)) (fp : List Addr), PG (X.blk s H scope (compEnvC scope cl C X.env) fp) tg g) (ht : ∀ (s : Shared) (H : Hp) (C : Addr) (cl : List (Str × Addr)) (fp : List Addr), PTs (X.blk s H scope (compEnvC scope cl C X.env) fp) ifs tt)
    (he : ∀ (s : Shared) (H : Hp) (C : Addr) (cl : List (Str × Addr)) (fp : List Addr), PE (X.blk s H scope (compEnvC scope cl C X.env) fp) elt te) (hs : ∀ x, foldedSetIterable iter X.env x = pure x)
    (h : tLc wi g tt te (own.map (·.2)) σ H Q)
    (hRR : ∀ D C s' m H', Inv X pins σ H' s' → Q (.ref D) H' → s'.heap.Ns C m → FpOk X pins H' C → compPost (model X.prog X.w) X.A X.xe use Qf (.ref D) C (.ok .next) s') :
    wpAny (model X.prog X.w) X.A (comprehension (.ListComp elt [⟨tg, iter, ifs, 0⟩] scope pos) scope X.env pos' (newList []) false (eval iter X.env) use) Qf X.xe s := by
  have hfree : ∀ y ∈ scope.names, y.2 = .free → ∃ c, X.env.cells.lookup y.1 = some c := fun y hy e => by
    rcases ok.free y hy e with k | k
    · exact I.ok.has _ (.inl k)
    · exact I.ok.has _ (.inr k)
  refine wpAny_comprehension_free (use := use) rfl hs (closure_ok hfree) ok.kind (fun y hy e => by rw [ok.uniq y hy, e])
    (thn (hi pins s σ H _ I h) fun xv s1 hx => thn hx fun itv s2 h2 => ?_)
  obtain ⟨it, fp, tn, J, H2, e, I2, T, st2, f2, q⟩ := h2
  subst e
  refine wpAny_newObj_type (newEnv_comp ?_) (by show 0 ≤ sizeLine; decide)
  generalize hD : s2.heap.objs.size = D
  have hDn : H2 D = none := I2.hok.fresh (Nat.le_of_eq hD)
  obtain ⟨W, ⟨m0, w0⟩, turn⟩ := q D hDn
  -- the new list
  generalize hs3 : ({ s2 with heap := s2.heap.push { cls := .type "list", data := .seq ([] : List Value).toArray } } : Shared) = s3
  have I3 : Inv X pins σ (upd H2 D (.lst [])) s3 := by
    rw [← hs3]
    refine I2.laid (t' := s2.toks) (fun b o e => Heap.get?_push_of_some _ e) (Nat.le_of_eq hD) ⟨Nat.zero_le _, [], 0, .nil, ?_⟩
    rw [← hD]
    exact Heap.get?_push_size _ rfl
  have h3 : s3.heap = s2.heap.push { cls := .type "list", data := .seq ([] : List Value).toArray } := by rw [← hs3]
  have sz : ∀ b ∈ fp, b < s2.heap.objs.size := fun b hb => by
    obtain ⟨o, e, _⟩ := T.obj _ _ st2 b hb
    exact Heap.lt_size e
  have f3 : ∀ b ∈ fp, FpOk X pins (upd H2 D (.lst [])) b ∧ b < s3.heap.objs.size := fun b hb => by
    have hlt := sz b hb
    refine ⟨⟨?_, (f2 b hb).2⟩, by rw [h3, Heap.size_push]; exact Nat.lt_succ_of_lt hlt⟩
    rw [upd_ne (by rw [← hD]; exact Nat.ne_of_lt hlt)]
    exact (f2 b hb).1
  have st3 : tn 0 s3.heap := T.keep _ _ _ st2 fun b _ o e => by rw [h3]; exact Heap.get?_push_of_some _ e
  have I4 := block_start I3 ok hN f3
  have pg := hg s3 (upd H2 D (.lst [])) s3.heap.objs.size (cellsFrom (s3.heap.objs.size + 1) scope.names (cloFrom X.env.cells scope.names [])) fp
  have pt := ht s3 (upd H2 D (.lst [])) s3.heap.objs.size (cellsFrom (s3.heap.objs.size + 1) scope.names (cloFrom X.env.cells scope.names [])) fp
  have pe := he s3 (upd H2 D (.lst [])) s3.heap.objs.size (cellsFrom (s3.heap.objs.size + 1) scope.names (cloFrom X.env.cells scope.names [])) fp
  show codeAny _ _ (.compStart (.ListComp elt [⟨tg, iter, ifs, 0⟩] scope pos) 0 (.ref it) (.ref D) (compEnvC scope (cellsFrom (s3.heap.objs.size + 1) scope.names (cloFrom X.env.cells scope.names [])) s3.heap.objs.size X.env)) (compPost (model X.prog X.w) X.A X.xe use Qf (.ref D) s3.heap.objs.size) { s3 with heap := pushCells (s3.heap.push { cls := .type "dict", data := .dict #[] }) scope.names }
  have nfp : ∀ b ∈ fp, (upd H2 D (.lst [])) b = none := fun b hb => (f3 b hb).1.1
  generalize hce : compEnvC scope (cellsFrom (s3.heap.objs.size + 1) scope.names (cloFrom X.env.cells scope.names [])) s3.heap.objs.size X.env = ce at I4 pg pt pe ⊢
  have cL : ce.locals = s3.heap.objs.size := by subst hce; rfl
  generalize hH3 : upd H2 D (.lst []) = H3 at I3 I4 pg pt pe w0 nfp f3
  generalize hs4 : ({ s3 with heap := pushCells (s3.heap.push { cls := .type "dict", data := .dict #[] }) scope.names } : Shared) = s4 at I4 ⊢
  have st4 : tn 0 s4.heap := T.keep _ _ _ st3 fun b _ o e => by rw [← hs4]; exact pushCells_keeps _ _ _ _ (Heap.get?_push_of_some _ e)
  have stat : ∀ {σ' : St} {H' : Hp} {s' : Shared}, Inv (X.blk s3 H3 scope ce fp) [] σ' H' s' → (∀ b ∈ fp, H' b = none) → ∀ b ∈ fp, FpOk (X.blk s3 H3 scope ce fp) [] H' b := fun {σ' H' s'} I' hn b hb =>
    ⟨hn b hb, (I'.ok.exf b hb).1, I'.ok.exfs b hb, .inl hb, fun x c e => (I'.ok.exf b hb).2 x c e, fun p hp => absurd (show p ∈ ([] : List (Addr × Obj)) ++ [] from hp) (by simp)⟩
  have loop : codeAny (model X.prog X.w) X.A (.compLoop (.ListComp elt [⟨tg, iter, ifs, 0⟩] scope pos) 0 (.ref it) (.ref D) ce) (compPost (model X.prog X.w) X.A X.xe use Qf (.ref D) s3.heap.objs.size) s4 := by
    refine compLoop_any (fun n s' => ∃ i H', Inv (X.blk s3 H3 scope ce fp) [] (wipe σ (own.map (·.2))) H' s' ∧ tn i s'.heap ∧ (∀ b ∈ fp, H' b = none) ∧ W i n H') ?_ m0 ⟨0, H3, I4, st4, nfp, w0⟩
    rintro n s5 ⟨i, H5, I5, st5, n5, w5⟩
    rcases turn i n H5 w5 with ⟨stop, qq⟩ | ⟨go, Nx, hNx, step⟩
    · have td := T.done (X.blk s3 H3 scope ce fp) rfl rfl rfl hc i [] s5 _ H5 (fun _ _ => False) I5 (stat I5 n5) st5 stop
      refine thnF td fun r s6 ⟨hr, I6⟩ => ?_
      subst hr
      -- back in the def's context
      have I7 : Inv X pins σ H5 s6 := I3.call' (ch := fp) I6.os I6.base I6.hok I6.bare fun b hb => ⟨(f3 b hb).1.2.2.2.1, (f3 b hb).1.2.1, (f3 b hb).1.2.2.2.2.1, (f3 b hb).1.2.2.2.2.2⟩
      have nC : H5 s3.heap.objs.size = none := by
        have z : H5 ce.locals = none := I6.free
        rw [cL] at z
        exact z
      obtain ⟨m, hn, _⟩ := I6.loc
      have hn : s6.heap.Ns ce.locals m := hn
      rw [cL] at hn
      exact hRR D s3.heap.objs.size s6 m H5 I7 qq hn (I3.fpOk (Nat.le_refl _) nC)
    · have ti := T.item (X.blk s3 H3 scope ce fp) rfl rfl rfl hc i [] s5 _ H5 (fun _ _ => False) I5 (stat I5 n5) st5 go
      refine thnF ti fun r s6 ⟨u, hr, h6⟩ => ?_
      subst hr
      refine thnF h6 fun _ s7 ⟨x, H7, I7, r7, y7, st7, n7⟩ => ?_
      have I7' := I7.pinned (stat I7 n7) (T.obj _ _ st7)
      refine thnF (pg _ s7 _ H7 x u _ I7' r7 (step x H7 y7)) fun _ s8 ⟨σ8, H8, I8, hw8, q8⟩ => ?_
      refine thnF (pt _ s8 σ8 H8 _ I8 q8) fun b s9 ⟨H9, I9, q9⟩ => ?_
      -- the turn's end
      have fin : ∀ {s' : Shared} {H' : Hp}, Inv (X.blk s3 H3 scope ce fp) ([] ++ pinsAt fp s7.heap) σ8 H' s' → Nx H' → ∃ m, m < n ∧ ∃ i H', Inv (X.blk s3 H3 scope ce fp) [] (wipe σ (own.map (·.2))) H' s' ∧ tn i s'.heap ∧ (∀ b ∈ fp, H' b = none) ∧ W i m H' := fun {s' H'} I' nx => by
        obtain ⟨m', hm, w'⟩ := hNx H' nx
        have pin' : ∀ b ∈ fp, ∀ o, s7.heap.get? b = some o → s'.heap.get? b = some o ∧ H' b = none := fun b hb o e =>
          let z := I'.pin (b, o) (List.mem_append_right _ (List.mem_append_right _ (mem_pinsAt hb e)))
          ⟨z.1, z.2.1⟩
        have hl : (wipe σ (own.map (·.2))).length = σ8.length := by rw [← hw8, wipe_length]
        refine ⟨m', hm, i + 1, H', (I'.unpinned (pins := [])).weak hl (fun j v e => ?_), T.keep _ _ _ st7 fun b hb o e => (pin' b hb o e).1, fun b hb => ?_, w'⟩
        · rw [← hw8] at e
          exact (wipe_some e).1
        · obtain ⟨o, e, _⟩ := T.obj _ _ st7 b hb
          exact (pin' b hb o e).2
      cases b with
      | false =>
        simp only [Bool.false_eq_true, if_false] at q9 ⊢
        exact fin I9 q9
      | true =>
        simp only [if_true] at q9 ⊢
        refine thnF (pe _ s9 σ8 H9 _ I9 q9) fun z s10 ⟨yv, H10, I10, r10, acc, hD10, hz10, nx⟩ => ?_
        exact app_ok (X := X.blk s3 H3 scope ce fp) I10 hD10 hz10 r10 fun s11 I11 => fin I11 nx
  exact codeAny_compStart_list loop (T.self X.A 0 _ _ _ st4 loop)
/-- as a value -/
theorem pe_lc {elt tg iter : Expr} {ifs : List Expr} {scope : Scope} {own : List (Str × Nat)} {pos : Pos} {wi : TI} {g : TG} {tt : TT} {te : TE} (hc : X.calm = true) (hN : X.N.Nodup) (hi : PI X tg iter wi) (ok : BlkOk X.N X.env.scope scope own)
    (hg : ∀ (s : Shared) (H : Hp) (C : Addr) (cl : List (Str × Addr)) (fp : List Addr), PG (X.blk s H scope (compEnvC scope cl C X.env) fp) tg g) (ht : ∀ (s : Shared) (H : Hp) (C : Addr) (cl : List (Str × Addr)) (fp : List Addr), PTs (X.blk s H scope (compEnvC scope cl C X.env) fp) ifs tt)
    (he : ∀ (s : Shared) (H : Hp) (C : Addr) (cl : List (Str × Addr)) (fp : List Addr), PE (X.blk s H scope (compEnvC scope cl C X.env) fp) elt te) (hs : ∀ x, foldedSetIterable iter X.env x = pure x := by intro _; rfl) :
    PE X (.ListComp elt [⟨tg, iter, ifs, 0⟩] scope pos) (tLc wi g tt te (own.map (·.2))) := by
  intro pins s σ H Q I h
  rw [eval_ListComp]
  refine lc_core hc hN I hi ok hg ht he hs h fun D C s' m H' I' q hn f => ⟨m, hn, fun h'' sb => ?_⟩
  obtain ⟨f0, f1, f2, f3, f4, f5⟩ := f
  exact ⟨.ref D, H', I'.turned (t' := s'.toks) (fun b o hb e => (sb.2 b hb).trans e) f0 f1 f3 f4 f5, rfl, q⟩
/-- name = [..] on one line, the name a local -/
theorem ps_setLc {i : Nat} {y : Str} {py : Pos} {elt tg iter : Expr} {ifs : List Expr} {scope : Scope} {own : List (Str × Nat)} {pos spos : Pos} {wi : TI} {g : TG} {tt : TT} {te : TE} (hc : X.calm = true) (hN : X.N.Nodup) (hy : X.N[i]? = some y) (hyl : X.env.scope.names.lookup y = some .local)
    (hsw : swapsWith (.ListComp elt [⟨tg, iter, ifs, 0⟩] scope pos) (some (.Name y py)) spos.line X.env = pure true) (hi : PI X tg iter wi) (ok : BlkOk X.N X.env.scope scope own)
    (hg : ∀ (s : Shared) (H : Hp) (C : Addr) (cl : List (Str × Addr)) (fp : List Addr), PG (X.blk s H scope (compEnvC scope cl C X.env) fp) tg g) (ht : ∀ (s : Shared) (H : Hp) (C : Addr) (cl : List (Str × Addr)) (fp : List Addr), PTs (X.blk s H scope (compEnvC scope cl C X.env) fp) ifs tt)
    (he : ∀ (s : Shared) (H : Hp) (C : Addr) (cl : List (Str × Addr)) (fp : List Addr), PE (X.blk s H scope (compEnvC scope cl C X.env) fp) elt te) (hs : ∀ x, foldedSetIterable iter X.env x = pure x := by intro _; rfl) :
    PS X (.Assign [.Name y py] (.ListComp elt [⟨tg, iter, ifs, 0⟩] scope pos) spos) (tAsg (tLc wi g tt te (own.map (·.2))) (gName i)) := by
  intro pins s σ H D I h
  rw [exec_Assign_Name_used _ _ _ _ hsw]
  refine wpAny_bind (wpAny_standAt (wpAny_bind ?_))
  show wpAny _ X.A (do let _ ← comprehension (.ListComp elt [⟨tg, iter, ifs, 0⟩] scope pos) scope X.env (firstIterPos [⟨tg, iter, ifs, 0⟩] pos) (newList []) false (eval iter X.env) (some (assign (.Name y py) X.env))) _ _ s
  have h : tLc wi g tt te (own.map (·.2)) σ H (fun x H1 => gName i x σ H1 D.nx) := h
  refine wpAny_bind (thn (lc_core (Qf := fun _ s' => SP X pins D .next s') hc hN I hi ok hg ht he hs h fun L C s' m H' I' q hn f => ?_) fun _ s' hq => wpAny_pure (wpAny_pure hq))
  show wpAny _ _ (assign (.Name y py) X.env (.ref L)) _ _ _
  refine wpAny_assign_Name (store_ok2 (v := V.ref L) I' hN hy (.inl hyl) rfl (fun s2 I2 ⟨a, sb, ha⟩ => ?_) (.inr hyl))
  obtain ⟨f0, f1, f2, f3, f4, f5⟩ := f
  have haC : C ≠ a := by
    rcases ha with z | z
    · rw [z]; exact f1
    · exact fun e => f4 y a z e.symm
  refine ⟨m, hn.sameBut sb haC, fun h3 sb3 => ?_⟩
  exact ⟨_, H', I2.turned (t' := s2.toks) (fun b o hb e => (sb3.2 b hb).trans e) f0 f1 f3 f4 f5, q⟩
theorem sw_true {elt : Expr} {gs : List Comprehension} {scope : Scope} {pos py : Pos} {y : Str} {l : Nat} {env : Env} (hk : env.scope.kind = .function) (hy : env.scope.names.lookup y = some .local) (hl : (py.line == pos.line) = true)
    (ha : (scope.names.any fun (n, k) => n == y && (k == .local || k == .cell)) = false) : swapsWith (.ListComp elt gs scope pos) (some (.Name y py)) l env = pure true := by
  have ky : env.kindOf y = some .local := hy
  have hb : env.blockKind = .function := by unfold Env.blockKind; rw [hk]; rfl
  unfold swapsWith
  simp only [hb, ky, ha, Expr.pos, hl]
  rfl
end

def blkC (N : List Str) (sc scope : Scope) (own : List (Str × Nat)) : Bool :=
  (match scope.kind with | .function => true | _ => false) && (scope.names.all fun y => decide (scope.names.lookup y.1 = some y.2)) && (own.all fun p => decide (N[p.2]? = some p.1)) &&
    (scope.names.all fun y => match y.2 with
      | .free => (match sc.names.lookup y.1 with | some .cell => true | some .free => true | _ => false)
      | .local => decide (y.1 ∈ own.map (·.1)) || decide (y.1 ∉ N)
      | .cell => decide (y.1 ∈ own.map (·.1)) || decide (y.1 ∉ N)
      | _ => true)
theorem blkOk_by {N : List Str} {sc scope : Scope} {own : List (Str × Nat)} (h : blkC N sc scope own = true) : BlkOk N sc scope own := by
  unfold blkC at h
  simp only [Bool.and_eq_true, List.all_eq_true, decide_eq_true_eq] at h
  obtain ⟨⟨⟨h1, h2⟩, h3⟩, h4⟩ := h
  refine ⟨?_, h2, h3, fun y hy e => ?_, fun y hy e => ?_⟩
  · split at h1
    · assumption
    · cases h1
  · have q := h4 y hy
    simp only [e] at q
    split at q <;> first | exact .inl (by assumption) | exact .inr (by assumption) | cases q
  · have q := h4 y hy
    rcases e with e | e <;> (simp only [e, Bool.or_eq_true, decide_eq_true_eq] at q; exact q)
end L2

namespace L2
open PySem PySem.Spec PyProof.Rows

section
variable {prog : Program} {w : World} {A : Around} {R : Result → Shared → Prop} {s : Shared} {elt t0 i0 t1 i1 : Expr} {ifs0 ifs1 : List Expr} {scope : Scope} {pos : Pos} {it acc : Value} {env : Env}
end

section
variable {X : Cx}
/-- [elt for tg in iter if .. for tg1 in iter1 if ..]: behind the first clause's store and tests the second source's own loop, from which Nx is reached. vs: the block's names; vs1: those of the second target -/
def tLc2 (wi : TI) (g : TG) (tt : TT) (wi1 : TI) (g1 : TG) (tt1 : TT) (te : TE) (vs vs1 : List Nat) : TE := fun σ H Q => wi σ H fun J H1 => ∀ D, H1 D = none → ∃ W : Nat → Nat → Hp → Prop, (∃ m, W 0 m (upd H1 D (.lst []))) ∧ ∀ i m H, W i m H →
  (J.stop i H ∧ Q (.ref D) H) ∨ (J.go i H ∧ ∃ Nx : Hp → Prop, (∀ H', Nx H' → ∃ m', m' < m ∧ W (i + 1) m' H') ∧ ∀ x H', J.yld i H x H' → g x (wipe σ vs) H' fun σ2 H2 => wipe σ2 vs = wipe σ vs ∧ tt σ2 H2 fun b H3 =>
    if b = true then wi1 σ2 H3 fun J1 H4 => ∃ W1 : Nat → Nat → Hp → Prop, (∃ m, W1 0 m H4) ∧ ∀ j k H, W1 j k H →
      (J1.stop j H ∧ Nx H) ∨ (J1.go j H ∧ ∃ Nx1 : Hp → Prop, (∀ H', Nx1 H' → ∃ k', k' < k ∧ W1 (j + 1) k' H') ∧ ∀ x H', J1.yld j H x H' → g1 x (wipe σ2 vs1) H' fun σ3 H5 => wipe σ3 vs1 = wipe σ2 vs1 ∧ tt1 σ3 H5 fun b H6 =>
        if b = true then te σ3 H6 fun y H7 => ∃ acc, H7 D = some (.lst acc) ∧ acc.length < sizeLine ∧ Nx1 (upd H7 D (.lst (acc ++ [y]))) else Nx1 H6)
    else Nx H3)
end
end L2

namespace L2
open PySem PySem.Spec PyProof.Rows

/-! ### lists of pairs as tables -/
section
variable {κ : Type} [DecidableEq κ]
def valV (kvs : List (κ × V)) (k : κ) : Option V := (kvs.find? fun kv => decide (kv.1 = k)).map (·.2)
/-- in its place, or at the end -/
def putK (kvs : List (κ × V)) (k : κ) (v : V) : List (κ × V) :=
  if (kvs.any fun kv => decide (kv.1 = k)) = true then kvs.map (fun kv => if kv.1 = k then (kv.1, v) else kv) else kvs ++ [(k, v)]
def dropK (kvs : List (κ × V)) (k : κ) : List (κ × V) := kvs.filter fun kv => decide (kv.1 ≠ k)

theorem valV_pos {p : κ × V} {r : List (κ × V)} {k : κ} (e : p.1 = k) : valV (p :: r) k = some p.2 := by simp [valV, List.find?_cons, e]
theorem valV_neg {p : κ × V} {r : List (κ × V)} {k : κ} (e : ¬ p.1 = k) : valV (p :: r) k = valV r k := by simp [valV, List.find?_cons, e]
theorem valV_any (k : κ) : ∀ kvs : List (κ × V), (kvs.any fun kv => decide (kv.1 = k)) = (valV kvs k).isSome
  | [] => rfl
  | p :: r => by
    rw [List.any_cons]
    by_cases e : p.1 = k
    · simp only [valV_pos e, decide_eq_true e, Bool.true_or, Option.isSome_some]
    · rw [valV_neg e, decide_eq_false e, Bool.false_or]; exact valV_any k r
theorem RelO.isSome_eq {o : Option V} {u : Option Value} (r : RelO o u) : o.isSome = u.isSome := by
  cases o with
  | none => cases u with
    | none => rfl
    | some _ => exact (show False from r).elim
  | some _ => cases u with
    | none => exact (show False from r).elim
    | some _ => rfl
theorem RelO.getD {o : Option V} {u : Option Value} {d : V} {d' : Value} (r : RelO o u) (rd : RelV d d') : RelV (o.getD d) (u.getD d') := by
  cases o with
  | none => cases u with
    | none => exact rd
    | some _ => exact (show False from r).elim
  | some _ => cases u with
    | none => exact (show False from r).elim
    | some _ => exact r

/-- raw tables of the same keys -/
theorem KV.val {kvs : List (κ × V)} {vs : List (κ × Value)} (r : KV kvs vs) (k : κ) : RelO (valV kvs k) (valueAt vs k) := by
  unfold KV at r
  induction r with
  | nil => exact True.intro
  | @cons p q ps qs h t ih =>
    obtain ⟨h1, h2⟩ := h
    by_cases e : p.1 = k
    · have e' : q.1 = k := h1.symm.trans e
      have b : valueAt (q :: qs) k = some q.2 := by simp [valueAt, List.find?_cons, e']
      rw [valV_pos e, b]; exact h2
    · have e' : ¬ q.1 = k := fun z => e (h1.trans z)
      have b : valueAt (q :: qs) k = valueAt qs k := by simp [valueAt, List.find?_cons, e']
      rw [valV_neg e, b]; exact ih
theorem KV.any {kvs : List (κ × V)} {vs : List (κ × Value)} (r : KV kvs vs) (k : κ) : (kvs.any fun kv => decide (kv.1 = k)) = vs.any fun kv => decide (kv.1 = k) := by
  unfold KV at r
  induction r with
  | nil => rfl
  | cons h t ih => rw [List.any_cons, List.any_cons, ih, h.1]
theorem KV.repl {kvs : List (κ × V)} {vs : List (κ × Value)} (r : KV kvs vs) (k : κ) {y : V} {u : Value} (ry : RelV y u) :
    KV (kvs.map fun kv => if kv.1 = k then (kv.1, y) else kv) (vs.map fun kv => if kv.1 = k then (kv.1, u) else kv) := by
  unfold KV at r ⊢
  induction r with
  | nil => exact .nil
  | @cons p q ps qs h t ih =>
    rw [List.map_cons, List.map_cons]
    refine .cons ?_ ih
    obtain ⟨h1, h2⟩ := h
    by_cases e : p.1 = k
    · rw [if_pos e, if_pos (h1.symm.trans e)]; exact ⟨h1, ry⟩
    · rw [if_neg e, if_neg (fun z => e (h1.trans z))]; exact ⟨h1, h2⟩
theorem KV.put {kvs : List (κ × V)} {vs : List (κ × Value)} (r : KV kvs vs) (k : κ) {y : V} {u : Value} (ry : RelV y u) : KV (putK kvs k y) (stored vs k u) := by
  unfold putK stored
  rw [r.any k]
  by_cases e : (vs.any fun kv => decide (kv.1 = k)) = true
  · rw [if_pos e, if_pos e]; exact r.repl k ry
  · rw [if_neg e, if_neg e]; exact Paired.snoc r ⟨rfl, ry⟩
theorem KV.drop {kvs : List (κ × V)} {vs : List (κ × Value)} (r : KV kvs vs) (k : κ) : KV (dropK kvs k) (without vs k) := by
  unfold KV at r ⊢
  unfold dropK without
  induction r with
  | nil => exact .nil
  | @cons p q ps qs h t ih =>
    obtain ⟨h1, h2⟩ := h
    rw [List.filter_cons, List.filter_cons]
    by_cases e : p.1 = k
    · have a : ¬ decide (p.1 ≠ k) = true := by simp [e]
      have b : ¬ decide (q.1 ≠ k) = true := by simp [h1.symm.trans e]
      rw [if_neg a, if_neg b]; exact ih
    · have e' : ¬ q.1 = k := fun z => e (h1.trans z)
      have a : decide (p.1 ≠ k) = true := by simp [e]
      have b : decide (q.1 ≠ k) = true := by simp [e']
      rw [if_pos a, if_pos b]; exact .cons ⟨h1, h2⟩ ih
theorem KV.keys {kvs : List (κ × V)} {vs : List (κ × Value)} (r : KV kvs vs) : kvs.map (·.1) = vs.map (·.1) := by
  unfold KV at r
  induction r with
  | nil => rfl
  | cons h t ih => rw [List.map_cons, List.map_cons, ih, h.1]
theorem KV.length {kvs : List (κ × V)} {vs : List (κ × Value)} (r : KV kvs vs) : kvs.length = vs.length := Paired.length r
end


/-! ### a tracked dict, its keys ints and texts or tuples of these -/
theorem kV_is {P : Program} {w : World} {k : Key} {u : Value} (r : RelV (kV k) u) : (mixKind P w).is k u = true := by
  cases k with
  | inl i => obtain ⟨t, e⟩ := (show ∃ t, u = Value.int i t from r); subst e; exact mixKind_int P w i t
  | inr x => obtain ⟨t, e⟩ := (show ∃ t, u = Value.str x t from r); subst e; exact mixKind_str P w x t
theorem items_are {P : Program} {w : World} : ∀ {ks : List Key} {us : List Value}, Vals (ks.map kV) us → ItemsAre (mixKind P w) ks us
  | [], _, r => by rw [List.map_nil] at r; cases r; exact .nil
  | k :: ks, _, r => by
    rw [List.map_cons] at r
    cases r with
    | cons h t => exact .cons (kV_is h) (items_are t)

/-- raw entries of a dict with tuple keys -/
abbrev KT (H : Hp) : List (List Key × V) → List (List Key × Addr × Value) → Prop := Paired fun p q => p.1 = q.1 ∧ H q.2.1 = some (.tup (p.1.map kV)) ∧ RelV p.2 q.2.2
theorem KT.val {H : Hp} {kvs : List (List Key × V)} {xs : List (List Key × Addr × Value)} (r : KT H kvs xs) (k : List Key) : RelO (valV kvs k) ((atKey xs k).map (·.2)) := by
  induction r with
  | nil => exact True.intro
  | @cons p q ps qs h t ih =>
    obtain ⟨h1, _, h2⟩ := h
    by_cases e : p.1 = k
    · have e' : q.1 = k := h1.symm.trans e
      have b : atKey (q :: qs) k = some q.2 := by simp [atKey, List.find?_cons, e']
      rw [valV_pos e, b]; exact h2
    · have e' : ¬ q.1 = k := fun z => e (h1.trans z)
      have b : atKey (q :: qs) k = atKey qs k := by simp [atKey, List.find?_cons, e']
      rw [valV_neg e, b]; exact ih
theorem KT.repl {H : Hp} {kvs : List (List Key × V)} {xs : List (List Key × Addr × Value)} (r : KT H kvs xs) (k : List Key) {y : V} {u : Value} (ry : RelV y u) :
    KT H (kvs.map fun kv => if kv.1 = k then (kv.1, y) else kv) (xs.map (putAt k u)) := by
  induction r with
  | nil => exact .nil
  | @cons p q ps qs h t ih =>
    rw [List.map_cons, List.map_cons]
    refine .cons ?_ ih
    obtain ⟨h1, h2, h3⟩ := h
    unfold putAt
    by_cases e : p.1 = k
    · rw [if_pos e, if_pos (h1.symm.trans e)]; exact ⟨h1, h2, ry⟩
    · rw [if_neg e, if_neg (fun z => e (h1.trans z))]; exact ⟨h1, h2, h3⟩
theorem KT.put {H : Hp} {kvs : List (List Key × V)} {xs : List (List Key × Addr × Value)} (r : KT H kvs xs) (k : List Key) {b : Addr} {y : V} {u : Value} (hb : H b = some (.tup (k.map kV))) (ry : RelV y u) :
    KT H (putK kvs k y) (storedH xs k b u) := by
  have e : (kvs.any fun kv => decide (kv.1 = k)) = (atKey xs k).isSome := by
    rw [valV_any, (r.val k).isSome_eq, Option.isSome_map]
  unfold putK storedH
  rw [e]
  by_cases q : (atKey xs k).isSome = true
  · rw [if_pos q, if_pos q]; exact r.repl k ry
  · rw [if_neg q, if_neg q]; exact Paired.snoc r ⟨rfl, hb, ry⟩
theorem KT.keeps {H H' : Hp} {kvs : List (List Key × V)} {xs : List (List Key × Addr × Value)} (r : KT H kvs xs) (ht : ∀ b ys, H b = some (.tup ys) → H' b = some (.tup ys)) : KT H' kvs xs :=
  Paired.mapP r fun _ _ z => ⟨z.1, ht _ _ z.2.1, z.2.2⟩

section
variable {P : Program} {w : World} {H : Hp} {h : Heap} {a : Addr}
theorem rd_of {u : HO} (ok : HOk P w H h) (e : Rd H a u) : ObjOk P w H h a u := e.ok ok
theorem dk_rd {kvs : List (Key × V)} (ok : HOk P w H h) (e : Rd H a (.dK kvs)) : kvs.length ≤ sizeLine ∧ (a == sysModules) = false ∧ ∃ vs, KV kvs vs ∧ h.DictOf (mixKind P w) a vs :=
  show ObjOk P w H h a (.dK kvs) from rd_of ok e
/-- a tracked tuple of ints and texts is a key -/
theorem key_of {ks : List Key} (ok : HOk P w H h) (e : H a = some (.tup (ks.map kV))) : (tupleKind (mixKind P w)).is h ks a := by
  obtain ⟨_, its, r, o, h1, h2, n, h3⟩ := (show ObjOk P w H h a (.tup (ks.map kV)) from ok a _ e)
  exact ⟨o, its.toArray, n, h1, h2, h3, by simpa using items_are r⟩
theorem dt_rd {kvs : List (List Key × V)} (ok : HOk P w H h) (e : Rd H a (.dT kvs)) : kvs.length ≤ sizeLine ∧ (a == sysModules) = false ∧
    ∃ xs, KT H kvs xs ∧ h.DictOfH (tupleKind (mixKind P w)) a xs := by
  obtain ⟨z, y, xs, r, o, es, ep, h1, h2, h3, h4, h5⟩ := (show ObjOk P w H h a (.dT kvs) from rd_of ok e)
  refine ⟨z, y, xs, r, o, es, ep, h1, h2, h3, h4, fun x hx => ?_, h5⟩
  have all : ∀ {l : List (List Key × V)} {m : List (List Key × Addr × Value)}, KT H l m → ∀ x ∈ m, (tupleKind (mixKind P w)).is h x.1 x.2.1 := by
    intro l m q
    induction q with
    | nil => intro x hx; exact nomatch hx
    | @cons p q ps qs hq t ih =>
      intro x hx
      rcases List.mem_cons.mp hx with e | hx
      · subst e
        exact key_of ok (by rw [← hq.1]; exact hq.2.1)
      · exact ih x hx
  exact all r x hx
end

/-- what the dict at a holds at the key y -/
def DGet (H : Hp) (a : Addr) (y : V) (r : Option V) : Prop :=
  (∃ kvs k, Rd H a (.dK kvs) ∧ y = kV k ∧ r = valV kvs k) ∨ ∃ kvs k b, Rd H a (.dT kvs) ∧ y = .ref b ∧ H b = some (.tup (k.map kV)) ∧ r = valV kvs k
/-- the heap behind a[y] = v -/
def DPut (H : Hp) (a : Addr) (y v : V) (H' : Hp) : Prop :=
  (∃ kvs k, H a = some (.dK kvs) ∧ y = kV k ∧ kvs.length < sizeLine ∧ H' = upd H a (.dK (putK kvs k v))) ∨
  ∃ kvs k b, H a = some (.dT kvs) ∧ y = .ref b ∧ H b = some (.tup (k.map kV)) ∧ kvs.length < sizeLine ∧ H' = upd H a (.dT (putK kvs k v))
theorem DGet.k {H : Hp} {a : Addr} {kvs : List (Key × V)} {k : Key} (e : H a = some (.dK kvs)) : DGet H a (kV k) (valV kvs k) := .inl ⟨kvs, k, .inl e, rfl, rfl⟩
theorem DGet.t {H : Hp} {a b : Addr} {kvs : List (List Key × V)} {k : List Key} (e : H a = some (.dT kvs)) (eb : H b = some (.tup (k.map kV))) : DGet H a (.ref b) (valV kvs k) := .inr ⟨kvs, k, b, .inl e, rfl, eb, rfl⟩
theorem DPut.k {H : Hp} {a : Addr} {kvs : List (Key × V)} {k : Key} {v : V} (e : H a = some (.dK kvs)) (hl : kvs.length < sizeLine) : DPut H a (kV k) v (upd H a (.dK (putK kvs k v))) := .inl ⟨kvs, k, e, rfl, hl, rfl⟩
theorem DPut.t {H : Hp} {a b : Addr} {kvs : List (List Key × V)} {k : List Key} {v : V} (e : H a = some (.dT kvs)) (eb : H b = some (.tup (k.map kV))) (hl : kvs.length < sizeLine) :
    DPut H a (.ref b) v (upd H a (.dT (putK kvs k v))) := .inr ⟨kvs, k, b, e, rfl, eb, hl, rfl⟩


section
variable {X : Cx} {pins : List (Addr × Obj)} {σ : St} {H : Hp} {s : Shared} {a : Addr} {y v : V} {u r : Value} {o : Option V} {A : Around} {E : Value → Shared → Prop}

theorem Inv.big (I : Inv X pins σ H s) : sysModules < s.heap.objs.size := by
  have h : mainGlobals < s.heap.objs.size := (I.mod.glob.keeps I.bk).lt
  exact Nat.lt_trans (by decide) h

/-- d[y], there -/
theorem d_getItem {Q : Value → Shared → Prop} (hu : A.units + 1 < cLine) (I : Inv X pins σ H s) (g : DGet H a y (some v)) (ry : RelV y u) (h : ∀ w' s', Inv X pins σ H s' → RelV v w' → Q w' s') :
    wpAny (model X.prog X.w) A (getItem (.ref a) u) Q E s := by
  rcases g with ⟨kvs, k, e, ey, l⟩ | ⟨kvs, k, b, e, ey, eb, l⟩
  · subst ey
    obtain ⟨z, hd, vs, rel, dd⟩ := dk_rd I.hok e
    obtain ⟨w', hw, rw'⟩ := RelO.some_of (v := v) (o := valueAt vs k) (by rw [l]; exact rel.val k)
    exact wpAny_getItem_of (kV_is ry) dd.mapOf hw (h w' _ (I.tok _) rw')
  · subst ey
    cases (show u = Value.ref b from ry)
    obtain ⟨z, hd, xs, rel, dd⟩ := dt_rd I.hok e
    obtain ⟨w', hw, rw'⟩ := RelO.some_of (v := v) (o := (atKey xs k).map (·.2)) (by rw [l]; exact rel.val k)
    obtain ⟨p, hp, hp2⟩ := Option.map_eq_some_iff.mp hw
    refine wpAny_getItem_heap (tupleKind_room_in1 hu) (key_of I.hok eb) dd hp ?_
    rw [hp2]
    exact h w' _ (I.tok _) rw'
end

section
variable {X : Cx} {pins : List (Addr × Obj)} {σ : St} {H : Hp} {s : Shared} {a : Addr} {kvs : List (Key × V)} {k : Key} {u : Value} {A : Around} {E : Value → Shared → Prop}
/-- len(d) -/
theorem d_len {Q : Value → Shared → Prop} (I : Inv X pins σ H s) (e : Rd H a (.dK kvs)) (h : ∀ t s', Inv X pins σ H s' → Q (.int kvs.length t) s') : wpAny (model X.prog X.w) A (call (.builtin "len") [.ref a]) Q E s := by
  obtain ⟨z, hd, vs, rel, dd⟩ := dk_rd I.hok e
  refine call_len_dict hd dd (by rw [← rel.length]; rw [sizeLine_eq] at z; omega) ?_
  rw [← rel.length]
  exact h _ _ (I.tok _)
end


/-! ### readings and rules -/
/-- the element of a subscription, not a slice -/
def NoSl (i : Expr) : Prop := ∀ ov iv, subscripted i false ov iv = operate [ov, iv] (getItem ov iv)
theorem subD_of {prog : Program} {w : World} {A : Around} {E : Value → Shared → Prop} {s : Shared} {env : Env} {value slice : Expr} {pos : Pos} {T id : String} {Q : Value → Shared → Prop}
    (hl : typeLookup (.type T) "__getitem__" = pure (some (.builtin id))) (hs : NoSl slice)
    (h : wpAny (model prog w) A (eval value env) (fun o s₁ => wpAny (model prog w) A (eval slice env) (fun i s₂ => s₂.TypeIs o T ∧ wpAny (model prog w) A (getItem o i) Q E s₂) E s₁) E s) :
    wpAny (model prog w) A (eval (.Subscript value slice pos) env) Q E s := by
  refine Subscript_ (wpAny_mono h (fun o s₁ h₁ => wpAny_mono h₁ (fun i s₂ h₂ => ?_) fun _ _ x => x) fun _ _ x => x)
  obtain ⟨hT, h₂⟩ := h₂
  unfold subscriptTail
  refine wpAny_bind ?_
  rw [getitemInPython_of_ne hT.not_modules]
  refine wpAny_bind (wpAny_specialOf hT hl ?_)
  have fin : wpAny (model prog w) A (subscripted slice false o i) (fun r s₃ => wpAny (model prog w) A (letTemporaryGo value o r >>= fun _ => pure r) Q E s₃) E s₂ := by
    rw [hs o i]
    exact wpAny_operating (wpAny_mono h₂ (fun r s₃ h₃ => wpAny_bind (wpAny_letTemporaryGo (wpAny_pure h₃))) fun _ _ x => x)
  first
    | exact wpAny_pure (wpAny_bind fin)
    | exact wpAny_bind (wpAny_pure (wpAny_bind fin))
    | exact wpAny_bind fin

theorem dict_typeIs {X : Cx} {pins : List (Addr × Obj)} {σ : St} {H : Hp} {s : Shared} {a : Addr} {y : V} {o : Option V} (I : Inv X pins σ H s) (g : DGet H a y o) : s.TypeIs (.ref a) "dict" := by
  rcases g with ⟨kvs, k, e, _, _⟩ | ⟨kvs, k, b, e, _, _, _⟩
  · obtain ⟨_, _, vs, _, dd⟩ := dk_rd I.hok e
    exact dd.typeIs
  · obtain ⟨_, _, xs, _, dd⟩ := dt_rd I.hok e
    exact dd.typeIs
/-- d[y] -/
def tDGet (td ty : TE) : TE := fun σ H Q => td σ H fun x H1 => ty σ H1 fun y H2 => ∃ a v, x = .ref a ∧ DGet H2 a y (some v) ∧ Q v H2
/-- y in d, y not in d -/
def tDIn (ty td : TE) : TE := fun σ H Q => ty σ H fun y H1 => td σ H1 fun x H2 => ∃ a o, x = .ref a ∧ DGet H2 a y o ∧ Q (.bl o.isSome) H2
def tDNotIn (ty td : TE) : TE := fun σ H Q => ty σ H fun y H1 => td σ H1 fun x H2 => ∃ a o, x = .ref a ∧ DGet H2 a y o ∧ Q (.bl (!o.isSome)) H2
/-- d[y] = v -/
def sDPut (td ty tv : TE) : TS := fun D σ H => tv σ H fun v H1 => td σ H1 fun x H2 => ty σ H2 fun y H3 => ∃ a H4, x = .ref a ∧ DPut H3 a y v H4 ∧ D.nx σ H4
/-- d[y] op= v -/
def sDAug (td ty tv : TE) (rd : V → V → Hp → VK → Prop) : TS := fun D σ H => td σ H fun x H1 => ty σ H1 fun y H2 => ∃ a v, x = .ref a ∧ DGet H2 a y (some v) ∧
  tv σ H2 fun y2 H3 => rd v y2 H3 fun z H4 => ∃ H5, DPut H4 a y z H5 ∧ D.nx σ H5
/-- del d[y] -/
def sDDel (td ty : TE) : TS := fun D σ H => td σ H fun x H1 => ty σ H1 fun y H2 => ∃ a kvs k, x = .ref a ∧ H2 a = some (.dK kvs) ∧ y = kV k ∧ (valV kvs k).isSome = true ∧ D.nx σ (upd H2 a (.dK (dropK kvs k)))

section
variable {X : Cx} {o i e value : Expr} {pos pos' tpos : Pos} {td ty tv : TE}
theorem pe_dget (hu : X.A.units + 1 < cLine) (ho : PE X o td) (hi : PE X i ty) (hs : NoSl i) : PE X (.Subscript o i pos) (tDGet td ty) := by
  intro pins s σ H Q I h
  refine subD_of PySem.F.slot_dict_getitem.lookup hs (thn (ho pins s σ H _ I h) fun u s1 ⟨x, H1, I1, rx, q1⟩ => thn (hi pins s1 σ H1 _ I1 q1) fun iv s2 ⟨y, H2, I2, ry, a, v, ex, g, q2⟩ => ?_)
  subst ex
  obtain rfl : u = Value.ref a := rx
  exact ⟨dict_typeIs I2 g, d_getItem hu I2 g ry fun w' s3 I3 rw' => ⟨v, H2, I3, rw', q2⟩⟩
end


/-- {}, to be a dict of the kind that is wanted -/
def tDNewK : TE := fun _ H Q => ∀ p, H p = none → Q (.ref p) (upd H p (.dK []))
def tDNewT : TE := fun _ H Q => ∀ p, H p = none → Q (.ref p) (upd H p (.dT []))
section
variable {X : Cx} {pos : Pos}
end

/-- the pairs of a display, from the left -/
def tPairs : List (TE × TE) → St → Hp → (List (V × V) → Hp → Prop) → Prop
  | [], _, H, Q => Q [] H
  | (tk, tv) :: r, σ, H, Q => tk σ H fun x H1 => tv σ H1 fun y H2 => tPairs r σ H2 fun ps H3 => Q ((x, y) :: ps) H3
abbrev VV : List (V × V) → List (Value × Value) → Prop := Paired fun p q => RelV p.1 q.1 ∧ RelV p.2 q.2
def PPs (X : Cx) (pos : Pos) (keys : List (Option Expr)) (values : List Expr) (trs : List (TE × TE)) : Prop :=
  ∀ (pins : List (Addr × Obj)) (s : Shared) (σ : St) (H : Hp) (Q : List (V × V) → Hp → Prop), Inv X pins σ H s → tPairs trs σ H Q →
    wpAny (model X.prog X.w) X.A (evalPairs (pairTrees keys values X.env pos)) (fun vs s' => ∃ ps H', Inv X pins σ H' s' ∧ VV ps vs ∧ Q ps H') X.xe s
def mergeK (kvs more : List (Key × V)) : List (Key × V) := more.foldl (fun acc kv => putK acc kv.1 kv.2) kvs
/-- {k: v, ..} with keys ints and texts; the new dict stands empty while the pairs are made -/
def tDisp (trs : List (TE × TE)) : TE := fun σ H Q => ∀ p, H p = none → tPairs trs σ (upd H p (.dK [])) fun ps H2 => H2 p = some (.dK []) ∧ ∃ kvs : List (Key × V), ps = kvs.map (fun kv => (kV kv.1, kv.2)) ∧ kvs.length ≤ 15 ∧ Q (.ref p) (upd H2 p (.dK (mergeK [] kvs)))
/-! ### methods -/
/-- a method call o.m(e) of a built-in, with one argument: what must be seen of the text -/
structure M1 (X : Cx) (o : Expr) (m : Str) (apos : Pos) (e : Expr) (cpos : Pos) : Prop where
  base : attributeBase o m X.env (eval o X.env) = eval o X.env
  few : ((backTo cpos (starEach [e] X.env)).all (fun x => !x.1) && (backToKw cpos (keywordEach [] X.env)).all (fun x => x.1.isSome)
    && decide (([e] : List Expr).length + ([] : List Keyword).length + (if ([] : List Keyword).isEmpty then 0 else 1) < 30)) = true
  line : (apos.endLine == cpos.line) = true
  trees : backTo cpos (starEach [e] X.env) = [(false, eval e X.env)]
structure M2 (X : Cx) (o : Expr) (m : Str) (apos : Pos) (e f : Expr) (cpos : Pos) : Prop where
  base : attributeBase o m X.env (eval o X.env) = eval o X.env
  few : ((backTo cpos (starEach [e, f] X.env)).all (fun x => !x.1) && (backToKw cpos (keywordEach [] X.env)).all (fun x => x.1.isSome)
    && decide (([e, f] : List Expr).length + ([] : List Keyword).length + (if ([] : List Keyword).isEmpty then 0 else 1) < 30)) = true
  line : (apos.endLine == cpos.line) = true
  trees : backTo cpos (starEach [e, f] X.env) = [(false, eval e X.env), (false, eval f X.env)]

/-- a is a dict, whatever its keys -/
def IsD (H : Hp) (a : Addr) : Prop := (∃ kvs, Rd H a (.dK kvs)) ∨ ∃ kvs, Rd H a (.dT kvs)
section
variable {X : Cx} {pins : List (Addr × Obj)} {σ : St} {H : Hp} {s : Shared} {a : Addr} {y d : V} {u r : Value} {o : Option V} {A : Around} {E : Value → Shared → Prop}
end

def tDGet1 (td ty : TE) : TE := fun σ H Q => td σ H fun x H1 => ∃ a, x = .ref a ∧ IsD H1 a ∧ ty σ H1 fun y H2 => ∃ o, DGet H2 a y o ∧ Q (o.getD .non) H2
def tDGet2 (td ty tx : TE) : TE := fun σ H Q => td σ H fun x H1 => ∃ a, x = .ref a ∧ IsD H1 a ∧ ty σ H1 fun y H2 => tx σ H2 fun z H3 => ∃ o, DGet H3 a y o ∧ Q (o.getD z) H3
/-- d.pop(k): there; d.pop(k, x): there or not -/
def tDPop1 (td ty : TE) : TE := fun σ H Q => td σ H fun x H1 => ∃ a, x = .ref a ∧ IsD H1 a ∧ ty σ H1 fun y H2 => ∃ kvs k v, H2 a = some (.dK kvs) ∧ y = kV k ∧ valV kvs k = some v ∧ Q v (upd H2 a (.dK (dropK kvs k)))
def tDPop2 (td ty tx : TE) : TE := fun σ H Q => td σ H fun x H1 => ∃ a, x = .ref a ∧ IsD H1 a ∧ ty σ H1 fun y H2 => tx σ H2 fun z H3 => ∃ kvs k, H3 a = some (.dK kvs) ∧ y = kV k ∧
  (∀ v, valV kvs k = some v → Q v (upd H3 a (.dK (dropK kvs k)))) ∧ (valV kvs k = none → Q z H3)
section
variable {X : Cx} {o e f : Expr} {apos cpos : Pos} {td ty tx : TE}
end

/-! ### dict(d): a copy -/
section
variable {X : Cx} {pins : List (Addr × Obj)} {σ : St} {H : Hp} {s : Shared} {a : Addr} {kvs : List (Key × V)} {A : Around} {E : Value → Shared → Prop}
end


section
variable {X : Cx} {pins : List (Addr × Obj)} {σ : St} {H : Hp} {s : Shared} {a : Addr} {y : V} {u : Value} {A : Around} {E : Value → Shared → Prop}
end
end L2

namespace L2
open PySem PySem.Spec PyProof.Rows

section
variable {prog : Program} {w : World} {A : Around} {E : Value → Shared → Prop}
end

section
variable {X : Cx}
end
end L2

namespace L2
open PySem PySem.Spec PyProof.Rows

section
variable {X : Cx} {pins : List (Addr × Obj)} {σ : St} {H : Hp} {s : Shared} {h' : Heap}
/-- .. and one new object is laid -/
theorem Inv.turnedNew {t' : Nat} {ch : List Addr} {T : Addr} {ob : HO} (I : Inv X pins σ H s) (k : ∀ b o, b ∉ ch → s.heap.get? b = some o → h'.get? b = some o) (hf : ∀ b ∈ ch, FpOk X pins H b) (hT : s.heap.objs.size ≤ T)
    (new : ObjOk X.prog X.w (upd H T ob) h' T ob) : Inv X pins σ (upd H T ob) { s with heap := h', toks := t' } := by
  have hn : H T = none := I.hok.fresh hT
  have nit : ∀ b u, H b = some u → b ∉ ch := fun b u e z => by
    have q := (hf b z).1
    rw [q] at e; cases e
  refine I.step (g' := s.gens) (d' := s.drawn) (ch := ch) (fun b hb => ⟨(hf b hb).2.2.2.1, (hf b hb).2.1, (hf b hb).2.2.2.2.1, (hf b hb).2.2.2.2.2⟩) (fun b o _ _ hc e _ => k b o hc e) (fun b o _ _ hc e _ => ⟨o.slots, k b o hc e⟩)
    (fun b o _ e n => ?_) (fun b o hc e => ⟨o, k b o hc e⟩) (fun b xs e => ?_) (fun b o u e => ?_) (fun b ps e => ⟨#[], ?_⟩) (fun m hm => ?_) (fun b u e => ?_) I.bare
  · rw [upd_ne (Nat.ne_of_lt (Nat.lt_of_lt_of_le (Heap.lt_size e) hT))]; exact n
  · rw [upd_ne (ne_of_none e hn)]; exact e
  · rw [upd_ne (ne_of_none e hn)]; exact e
  · rw [upd_ne (ne_of_none e hn), e]; simp
  · obtain ⟨o, es, ep, ho, r⟩ := hm
    exact ⟨o, es, ep, k _ o (fun z => (hf _ z).2.1 rfl) ho, r⟩
  · by_cases hb : b = T
    · subst hb
      rw [upd_same] at e
      cases e
      exact new
    · rw [upd_ne hb] at e
      refine (I.hok b u e).stay (fun c v hc q => k c v ?_ q) (fun c q => by rw [upd_ne (ne_of_none q hn)]; exact q) fun c xs q => by rw [upd_ne (ne_of_none q hn)]; exact q
      rcases hc with z | z
      · rw [z]; exact nit b u e
      · exact nit c _ z

/-! ### locking a thing while a statement runs -/
theorem Inv.lock {d : Addr} {u : HO} (I : Inv X pins σ H s) (h : H d = some u) (mu : Mut (some u)) : ∃ od, Inv X pins σ (upd H d (.frz od u)) s := by
  have x := I.hok d u h
  have ex : ∃ od, s.heap.get? d = some od := by
    cases u with
    | lst xs => obtain ⟨_, _, _, _, e⟩ := x; exact ⟨_, e⟩
    | dK kvs => obtain ⟨_, _, _, _, o, _, _, e, _⟩ := x; exact ⟨o, e⟩
    | dT kvs => obtain ⟨_, _, _, _, o, _, _, e, _⟩ := x; exact ⟨o, e⟩
    | set S n => obtain ⟨o, _, _, _, e, _⟩ := x; exact ⟨o, e⟩
    | ins C dx fs => obtain ⟨_, _, _, e, _⟩ := x; exact ⟨_, e⟩
    | ext φ => obtain ⟨_, ⟨_, e⟩, _⟩ := x; exact ⟨_, e⟩
    | _ => exact False.elim mu
  obtain ⟨od, e⟩ := ex
  have new : ObjOk X.prog X.w (upd H d (.frz od u)) s.heap d (.frz od u) := by
    refine ⟨e, x.stay (fun b v _ q => q) (fun b q => ?_) fun b xs q => ?_⟩
    · rw [upd_ne (fun z => by rw [z, h] at q; cases q; exact mu)]; exact q
    · rw [upd_ne (fun z => by rw [z, h] at q; cases q; exact mu)]; exact q
  exact ⟨od, I.write (x := d) (e := d) (t' := s.toks) (h' := s.heap) (by rw [h]; exact mu) (.inl rfl) (fun b v _ q => q) ⟨od, e⟩ new⟩
theorem Inv.nofrz {d : Addr} {u : HO} (I : Inv X pins σ H s) (h : H d = some u) (mu : Mut (some u)) : ∀ o' u', X.H_0 d ≠ some (.frz o' u') := fun o' u' e => by
  have q := I.base.frzs d o' u' e
  rw [h] at q
  cases q
  exact mu
theorem Inv.unlock {d : Addr} {od : Obj} {u : HO} (I : Inv X pins σ H s) (h : H d = some (.frz od u)) (hn : ∀ o' u', X.H_0 d ≠ some (.frz o' u')) : Inv X pins σ (upd H d u) s := by
  have neH : ∀ b o, H b = some o → (∀ o' u', o ≠ .frz o' u') → b ≠ d := fun b o e hne z => by
    rw [z, h] at e
    cases e
    exact hne _ _ rfl
  have neN : ∀ b, H b = none → b ≠ d := fun b e z => by rw [z, h] at e; cases e
  refine ⟨I.ok, I.os, I.bare, ⟨I.base.keep, I.base.slot, fun b o e n hx => ?_, I.base.there, fun b xs e => ?_, fun b o x e => ?_, fun b ps e => ?_⟩, I.loc, I.cell, ?_, fun x c e => ?_, fun p hp => ?_, fun b o e => ?_, I.len⟩
  · rw [upd_ne (neN b (I.base.free b o e n hx))]; exact I.base.free b o e n hx
  · have q := I.base.tups b xs e
    rw [upd_ne (neH b _ q (fun _ _ z => nomatch z))]; exact q
  · have q := I.base.frzs b o x e
    rw [upd_ne (fun z => by rw [z] at e; exact hn _ _ e)]; exact q
  · obtain ⟨m, q⟩ := I.base.tbls b ps e
    exact ⟨m, by rw [upd_ne (neH b _ q (fun _ _ z => nomatch z))]; exact q⟩
  · rw [upd_ne (neN _ I.free)]; exact I.free
  · rw [upd_ne (neN c (I.freeC x c e))]; exact I.freeC x c e
  · obtain ⟨e, n, r⟩ := I.pin p hp
    exact ⟨e, by rw [upd_ne (neN _ n)]; exact n, r⟩
  · by_cases hb : b = d
    · rw [hb, upd_same] at e
      cases e
      rw [hb]
      obtain ⟨_, x⟩ := I.hok d _ h
      exact x.stay (fun c v _ q => q) (fun c q => by rw [upd_ne (neH c _ q (fun _ _ z => nomatch z))]; exact q) fun c xs q => by rw [upd_ne (neH c _ q (fun _ _ z => nomatch z))]; exact q
    · rw [upd_ne hb] at e
      exact (I.hok b o e).stay (fun c v _ q => q) (fun c q => by rw [upd_ne (neH c _ q (fun _ _ z => nomatch z))]; exact q) fun c xs q => by rw [upd_ne (neH c _ q (fun _ _ z => nomatch z))]; exact q
end
/-- the statement runs while the thing at d is locked (read, not written); d and what stands there are the reading's choice -/
def tLock (t : TS) : TS := fun D σ H => ∃ d u, H d = some u ∧ Mut (some u) ∧ ∀ od, t ⟨fun σ' H' => H' d = some (.frz od u) ∧ D.nx σ' (upd H' d u), fun v H' => H' d = some (.frz od u) ∧ D.rt v (upd H' d u), fun σ' H' => H' d = some (.frz od u) ∧ D.bk σ' (upd H' d u), fun σ' H' => H' d = some (.frz od u) ∧ D.ct σ' (upd H' d u)⟩ σ (upd H d (.frz od u))
def tLockE (t : TE) : TE := fun σ H Q => ∃ d u, H d = some u ∧ Mut (some u) ∧ ∀ od, t σ (upd H d (.frz od u)) fun v H' => H' d = some (.frz od u) ∧ Q v (upd H' d u)
section
variable {X : Cx}
theorem ps_lock {st : Stmt} {t : TS} (h : PS X st t) : PS X st (tLock t) := by
  intro pins s σ H D I hw
  obtain ⟨d, u, hd, mu, hw⟩ := hw
  obtain ⟨od, I1⟩ := I.lock hd mu
  refine thn (h pins s σ _ _ I1 (hw od)) fun f s1 q => ?_
  cases f with
  | next => obtain ⟨σ', H', I2, e, q⟩ := q; exact ⟨σ', _, I2.unlock e (I.nofrz hd mu), q⟩
  | brk => obtain ⟨σ', H', I2, e, q⟩ := q; exact ⟨σ', _, I2.unlock e (I.nofrz hd mu), q⟩
  | cont => obtain ⟨σ', H', I2, e, q⟩ := q; exact ⟨σ', _, I2.unlock e (I.nofrz hd mu), q⟩
  | ret v => obtain ⟨x, σ', H', I2, r, e, q⟩ := q; exact ⟨x, σ', _, I2.unlock e (I.nofrz hd mu), r, q⟩
theorem pe_lock {e : Expr} {t : TE} (h : PE X e t) : PE X e (tLockE t) := by
  intro pins s σ H Q I hw
  obtain ⟨d, u, hd, mu, hw⟩ := hw
  obtain ⟨od, I1⟩ := I.lock hd mu
  refine thn (h pins s σ _ _ I1 (hw od)) fun v s1 ⟨x, H1, I2, r, e2, q⟩ => ?_
  exact ⟨x, _, I2.unlock e2 (I.nofrz hd mu), r, q⟩

/-! ### one iterator just laid -/
theorem pi_one {tg : Expr} {pins : List (Addr × Obj)} {σ : St} {H : Hp} {s : Shared} {R : It → Hp → Prop} {J : It} {tn : Nat → Heap → Prop} {tk : Nat} (I : Inv X pins σ H s) (o : Obj)
    (T : Turn X.prog X.w X.K tg J [s.heap.objs.size] s.heap.objs.size tn) (st : tn 0 (s.heap.push o)) (q : R J H) : PIE X pins σ tg R (.ref s.heap.objs.size) { s with heap := s.heap.push o, toks := tk } := by
  refine ⟨s.heap.objs.size, [s.heap.objs.size], tn, J, H, rfl, I.kept fun b ob e => Heap.get?_push_of_some _ e, T, st, fun b hb => ?_, q⟩
  have e : b = s.heap.objs.size := by simpa using hb
  subst e
  exact I.fpOk (Nat.le_refl _) (I.hok.fresh (Nat.le_refl _))
end

/-! ### range with a step -/
/-- lo, lo + c, .. (n of them) -/
def Itc (lo c : Int) (n : Nat) : It := ⟨fun i _ => i < n, fun i H x H' => H' = H ∧ x = .int (lo + (i : Nat) * c), fun i _ => n ≤ i⟩
/-- range(i, j, c): small bounds, n items -/
def RgC (i j c : Int) (n : Nat) : Prop := c ≠ 0 ∧ c.natAbs < 1073741824 ∧ Builtin.Range.small i j c = true ∧ Builtin.Range.rangeSize i j c = n
theorem RgC.neg {i j : Int} (ha : -(2 ^ 62) ≤ i) (ha' : i < 2 ^ 62) (hb : -(2 ^ 62) ≤ j) (hb' : j < 2 ^ 62) : RgC i j (-1) (i - j).toNat :=
  ⟨by decide, by decide, PySem.W.small_down ha ha' hb hb', PySem.W.rangeSize_downNat i j⟩
def iRng3 (ta : TA) : TI := fun σ H R => ta σ H fun vs H1 => ∃ (i j c : Int) (n : Nat), vs = [.int i, .int j, .int c] ∧ RgC i j c n ∧ R (Itc i c n) H1
section
variable {X : Cx} {tg : Expr}
end
/-! ### reversed(list) -/
/-- the list at a (n items at the start, which the loop leaves there), from its end -/
def Itv (K : PySem.W.Frag) (a : Addr) (n : Nat) : It :=
  ⟨fun i H => i < n ∧ ∃ (xs : List V) (x : V), SqL K H a xs ∧ xs[n - 1 - i]? = some x, fun i H x H' => H' = H ∧ ∀ xs, SqL K H a xs → xs[n - 1 - i]? = some x, fun i _ => n ≤ i⟩
def iRev (K : PySem.W.Frag) (ta : TA) : TI := fun σ H R => ta σ H fun vs H1 => ∃ (a : Addr) (xs : List V), vs = [.ref a] ∧ SqL K H1 a xs ∧ R (Itv K a xs.length) H1
section
variable {X : Cx} {tg : Expr}
end

/-! ### a str -/
def Its (x : Str) : It := ⟨fun i _ => i < x.cps.size, fun i H v H' => H' = H ∧ ∃ c, x.cps[i]? = some c ∧ v = .str ⟨#[c]⟩, fun i _ => x.cps.size ≤ i⟩
theorem turn_str {P : Program} {w : World} {K : PySem.W.Frag} {tg : Expr} (it : Addr) (x : Str) (t : Tok) (ty : String) (hty : ty = "str_ascii_iterator" ∨ ty = "str_iterator") :
    Turn P w K tg (Its x) [it] it (fun i h => h.IsStrIter it ty x t i) where
  mem := by simp
  obj := fun i h st b hb => by
    have e : b = it := by simpa using hb
    subst e
    obtain ⟨o, e, c, d⟩ := st
    exact ⟨o, e, fun v z => by rw [d] at z; cases z⟩
  keep := fun i h h' st k => let ⟨o, ho, r⟩ := st; ⟨o, k it (by simp) o ho, r⟩
  item := by
    intro X hP hw hK hc i pins s σ H E I hf st hg
    subst hP hw hK
    obtain ⟨f0, f1, f2, f3, f4, f5⟩ := hf it (by simp)
    have W : Walks X.prog X.w X.A it [it] [it] x.cps.size (SignAt x) (fun i h => h.IsStrIter it ty x t i) := by
      rcases hty with e | e
      · rw [e]; exact Walks.strAscii (I.ok.hd hc) it x t
      · rw [e]; exact Walks.strWide (I.ok.hd hc) it x t
    have hno : ["enumerate", "zip", "dict_itemiterator", "dict_reverseitemiterator", "odict_iterator", "itertools.zip_longest", "itertools.pairwise"].contains ty = false := by
      rcases hty with e | e
      · rw [e]; decide
      · rw [e]; decide
    refine W.item i s _ _ hg st fun v h' tk hv st' kk => ?_
    obtain ⟨c, u, hcx, rfl⟩ := hv
    have I1 : Inv X pins σ H { s with heap := h', toks := tk } := I.turned (fun b o hb e => kk b o (by simpa using hb) e) f0 f1 f3 f4 f5
    obtain ⟨oi, e, cc, dd⟩ := id st'
    exact ⟨_, rfl, go_of (s := { s with heap := h', toks := tk }) e cc dd hno ⟨.str ⟨#[c]⟩, H, I1, ⟨u, rfl⟩, ⟨rfl, c, hcx, rfl⟩, st', fun b hb => (hf b hb).1⟩⟩
  done := by
    intro X hP hw hK hc i pins s σ H E I hf st hg
    subst hP hw hK
    obtain ⟨f0, f1, f2, f3, f4, f5⟩ := hf it (by simp)
    have hx : x.cps[i]? = none := Array.getElem?_eq_none hg
    rcases hty with e | e
    · rw [e] at st
      exact wpAny_pyNext_ascii_end (I.ok.hd hc) st hx fun h' eb => ⟨rfl, I.turned (t' := s.toks) (fun b o hb e => eb b o hb e) f0 f1 f3 f4 f5⟩
    · rw [e] at st
      exact wpAny_pyNext_wide_end (I.ok.hd hc) st hx fun h' eb => ⟨rfl, I.turned (t' := s.toks) (fun b o hb e => eb b o hb e) f0 f1 f3 f4 f5⟩
  self := fun A i s Q E st h => by
    rcases hty with e | e
    · rw [e] at st; exact wpAny_pyIter_striter_ascii st h
    · rw [e] at st; exact wpAny_pyIter_striter_wide st h
def iStr (te : TE) : TI := fun σ H R => te σ H fun v H1 => ∃ x, v = .str x ∧ R (Its x) H1
theorem pi_str {X : Cx} {tg e : Expr} {te : TE} (he : PE X e te) : PI X tg e (iStr te) := by
  intro pins s σ H R I h
  refine thn (he pins s σ H _ I h) fun v s1 ⟨y, H1, I1, r1, x, ex, q⟩ => ?_
  subst ex
  obtain ⟨t, rfl⟩ := r1
  cases ha : x.cps.all (· < 128)
  · exact wpAny_pyIter_wide ha (pi_one (tk := s1.toks) I1 _ (turn_str _ x t "str_iterator" (.inr rfl)) ⟨_, Heap.get?_push_size _ rfl, rfl, rfl⟩ q)
  · exact wpAny_pyIter_ascii ha (pi_one (tk := s1.toks) I1 _ (turn_str _ x t "str_ascii_iterator" (.inl rfl)) ⟨_, Heap.get?_push_size _ rfl, rfl, rfl⟩ q)

/-! ### a dict's keys: any dict's entries -/
section
variable {prog : Program} {w : World} {A : Around} {E : Value → Shared → Prop} {s : Shared}
theorem iter_keys {d : Addr} {o : Obj} {es : Array DictEntry} {ep : Nat} {Q : Value → Shared → Prop} (hd : (d == sysModules) = false) (ho : s.heap.get? d = some o) (hc : o.ExactDict) (hdat : o.data = .dict es ep)
    (hQ : Q (.ref s.heap.objs.size) { s with heap := s.heap.push { cls := .type "dict_keyiterator", data := .fields #[.ref d, .int 0 0, .int es.size 0, .int ep 0] } }) :
    wpAny (model prog w) A (pyIter (.ref d)) Q E s := by
  have hT : s.TypeIs (.ref d) "dict" := ⟨o, ho, hc.1⟩
  refine wpAny_pyIter_slot hT F.slot_dict_iter (wpAny_call_entry F.slot_dict_iter hT F.entry_dict_iter ?_ (F.args_dict_iter_1 _))
  unfold Builtin.«dict.__iter__»
  refine wpAny_bind ?_
  unfold Builtin.Dict.dictSlotNone
  refine wpAny_bind (wpAny_notOrdered_dict hT ?_)
  show wpAny _ _ (pure (Value.ref d)) _ _ s
  refine wpAny_pure ?_
  show wpAny _ _ (Builtin.Dict.showsAll d >>= _) _ _ s
  unfold Builtin.Dict.showsAll
  rw [if_neg (by rw [hd]; exact Bool.false_ne_true)]
  refine wpAny_bind (wpAny_pure ?_)
  refine wpAny_bind (wpAny_dictEntries ho hdat ?_)
  refine wpAny_bind (wpAny_dictEpoch ho hdat ?_)
  refine wpAny_bind (wpAny_newObj_type (wpAny_pure ⟨_, rfl, "dict_keyiterator", _, ⟨_, Heap.get?_push_size _ rfl, rfl⟩, F.slot_dict_keyiterator_next.lookup, ?_⟩))
  simpa [rawInt] using hQ
theorem next_key_item {it d : Addr} {i n ep : Nat} {od : Obj} {es : Array DictEntry} {en : DictEntry} {Q : Option Value → Shared → Prop} (hit : s.heap.IsKeyIter it d i n ep) (hod : s.heap.get? d = some od) (hdd : od.data = .dict es ep)
    (hsz : es.size = n) (hx : es[i]? = some en) (hQ : ∀ h', h'.IsKeyIter it d (i + 1) n ep → Heap.SameBut it s.heap h' → Q (some en.key) { s with heap := h' }) : wpAny (model prog w) A (pyNext (.ref it)) Q E s := by
  obtain ⟨o, ho, hc, hd⟩ := id hit
  unfold pyNext
  refine wpAny_bind (wpAny_attempt (wpAny_callSpecial?_slot (name := Str.ofString "__next__") hit.typeIs F.slot_dict_keyiterator_next
    (wpAny_call_entry F.slot_dict_keyiterator_next hit.typeIs F.entry_dict_keyiterator_next ?_ (F.args_dict_keyiterator_next_1 _))))
  refine wpAny_bind (wpAny_pure ?_)
  refine wpAny_bind ?_
  refine wpAny_bind ?_
  first | refine wpAny_bind (wpAny_typeNameOfWhole_keyiter hit.typeIs (wpAny_pure ?_)) | refine wpAny_bind (wpAny_typeNameOf_keyiter hit.typeIs (wpAny_pure ?_))
  refine wpAny_bind (wpAny_fieldsOf ho hd ?_)
  have hown : Builtin.Dict_items.ownsTuple "dict_keyiterator" = false := by decide
  simp only [hown, Bool.false_eq_true, if_false]
  show wpAny _ _ (if (Value.ref d == Value.none) = true then _ else _) _ _ s
  rw [if_neg (show ¬ ((Value.ref d == Value.none) = true) from Bool.false_ne_true)]
  refine wpAny_bind (wpAny_pure ?_)
  refine wpAny_bind (wpAny_dictEntries hod hdd ?_)
  rw [if_neg (by rw [hsz]; simp)]
  refine wpAny_bind (wpAny_pure ?_)
  refine wpAny_bind (wpAny_dictEpoch hod hdd ?_)
  rw [if_neg (by simp)]
  refine wpAny_pure ?_
  obtain ⟨hlt', hen⟩ := Array.getElem?_eq_some_iff.mp hx
  simp only [show ¬ ((i : Int) < 0) from by omega, if_false, Int.toNat_natCast, Array.getElem?_eq_getElem hlt']
  refine wpAny_bind ?_
  first | refine wpAny_bind (wpAny_typeNameOfWhole_keyiter hit.typeIs (wpAny_pure ?_)) | refine wpAny_bind (wpAny_typeNameOf_keyiter hit.typeIs (wpAny_pure ?_))
  refine wpAny_bind (wpAny_isOneOf_keyiter hit.typeIs ?_)
  show wpAny _ _ (setField (.ref it) 1 (rawInt ((i : Int) + 1)) >>= _) _ _ s
  refine wpAny_bind (wpAny_setField ho hd (by simp) ?_)
  have hit' : (s.heap.update it (Obj.mapFields (·.setIfInBounds 1 (rawInt ((i : Int) + 1))))).IsKeyIter it d (i + 1) n ep :=
    ⟨_, Heap.get?_update_self _ ho (Obj.isFreed_of_fields (Obj.data_mapFields hd _)), (Obj.cls_mapFields ..).trans hc, by rw [Obj.data_mapFields hd]; simp [rawInt]⟩
  refine wpAny_bind (wpAny_holding ?_)
  refine wpAny_bind (wpAny_isOneOf_keyiter (s := { s with heap := s.heap.update it (Obj.mapFields (·.setIfInBounds 1 (rawInt ((i : Int) + 1)))) }) hit'.typeIs ?_)
  show wpAny _ _ (pure es[i].key) _ _ _
  rw [hen]
  exact wpAny_pure (wpAny_pure ⟨_, rfl, wpAny_pure (hQ _ hit' (Heap.SameBut.update ..))⟩)
theorem next_key_end {it d : Addr} {i n ep : Nat} {od : Obj} {es : Array DictEntry} {Q : Option Value → Shared → Prop} (hh : A.handled = none) (hit : s.heap.IsKeyIter it d i n ep) (hod : s.heap.get? d = some od) (hdd : od.data = .dict es ep)
    (hsz : es.size = n) (hge : n ≤ i) (hQ : ∀ h', Heap.ExtBut it s.heap h' → Q none { s with heap := h' }) : wpAny (model prog w) A (pyNext (.ref it)) Q E s := by
  obtain ⟨o, ho, hc, hd⟩ := id hit
  unfold pyNext
  refine wpAny_bind (wpAny_attempt (wpAny_callSpecial?_slot (name := Str.ofString "__next__") hit.typeIs F.slot_dict_keyiterator_next
    (wpAny_call_entry F.slot_dict_keyiterator_next hit.typeIs F.entry_dict_keyiterator_next ?_ (F.args_dict_keyiterator_next_1 _))))
  refine wpAny_bind (wpAny_pure ?_)
  refine wpAny_bind ?_
  refine wpAny_bind ?_
  first | refine wpAny_bind (wpAny_typeNameOfWhole_keyiter hit.typeIs (wpAny_pure ?_)) | refine wpAny_bind (wpAny_typeNameOf_keyiter hit.typeIs (wpAny_pure ?_))
  refine wpAny_bind (wpAny_fieldsOf ho hd ?_)
  have hown : Builtin.Dict_items.ownsTuple "dict_keyiterator" = false := by decide
  simp only [hown, Bool.false_eq_true, if_false]
  show wpAny _ _ (if (Value.ref d == Value.none) = true then _ else _) _ _ s
  rw [if_neg (show ¬ ((Value.ref d == Value.none) = true) from Bool.false_ne_true)]
  refine wpAny_bind (wpAny_pure ?_)
  refine wpAny_bind (wpAny_dictEntries hod hdd ?_)
  rw [if_neg (by rw [hsz]; simp)]
  refine wpAny_bind (wpAny_pure ?_)
  refine wpAny_bind (wpAny_dictEpoch hod hdd ?_)
  rw [if_neg (by simp)]
  refine wpAny_pure ?_
  have hge' : es.size ≤ i := by rw [hsz]; exact hge
  simp only [show ¬ ((i : Int) < 0) from by omega, if_false, Int.toNat_natCast, Array.getElem?_eq_none hge']
  refine wpAny_bind ?_
  first | refine wpAny_bind (wpAny_typeNameOfWhole_keyiter hit.typeIs (wpAny_pure ?_)) | refine wpAny_bind (wpAny_typeNameOf_keyiter hit.typeIs (wpAny_pure ?_))
  show wpAny _ _ (setField (.ref it) 0 .none >>= _) _ _ s
  refine wpAny_bind (wpAny_setField ho hd (by simp) ?_)
  show wpAny _ _ (newExc (.type "StopIteration") [] >>= _) _ _ _
  refine wpAny_bind ?_
  simp only [newExc, newTuple]
  refine wpAny_bind (wpAny_newObj_type ?_ (by size_fits))
  refine wpAny_bind (m := firstArgMember _ _) (wpAny_of_eq (a := Value.none) (by first | rfl | (simp only [firstArgMember]; rfl)) ?_)
  refine wpAny_newObj_type ?_ (by size_fits)
  simp only [raiseNew]
  refine wpAny_bind (wpAny_handled ?_)
  rw [show A.in1.handled = none from hh]
  refine wpAny_bind (wpAny_pure (wpAny_throw ?_))
  refine wpAny_bind (wpAny_isInstance (T := "StopIteration") (b := true) ⟨_, Heap.get?_push_size _ rfl, rfl⟩ isSubtype_stop ?_)
  exact wpAny_pure (hQ _ (((Heap.SameBut.update ..).extBut.push _).push _))
end

/-! ### a locked dict -/
theorem kv_get {κ : Type} {kvs : List (κ × V)} {vs : List (κ × Value)} (h : KV kvs vs) : ∀ {i : Nat} {k : κ} {v : V}, kvs[i]? = some (k, v) → ∃ u, vs[i]? = some (k, u) ∧ RelV v u := by
  unfold KV at h
  induction h with
  | nil => intro i k v e; simp at e
  | @cons a b l₁ l₂ r t ih =>
    intro i k v e
    cases i with
    | zero =>
      simp only [List.getElem?_cons_zero, Option.some.injEq] at e
      subst e
      refine ⟨b.2, ?_, r.2⟩
      simp only [List.getElem?_cons_zero]
      exact congrArg some (Prod.ext r.1.symm rfl)
    | succ j =>
      simp only [List.getElem?_cons_succ] at e ⊢
      exact ih e
theorem paired_get {α β : Type} {G : α → β → Prop} {l₁ : List α} {l₂ : List β} (h : Paired G l₁ l₂) : ∀ {i : Nat} {a : α}, l₁[i]? = some a → ∃ b, l₂[i]? = some b ∧ G a b := by
  induction h with
  | nil => intro i a e; simp at e
  | @cons a b l₁ l₂ r t ih =>
    intro i a' e
    cases i with
    | zero =>
      simp only [List.getElem?_cons_zero, Option.some.injEq] at e
      subst e
      exact ⟨b, rfl, r⟩
    | succ j =>
      simp only [List.getElem?_cons_succ] at e ⊢
      exact ih e
theorem relV_key {k : Key} {u : Value} (h : keyIs k u = true) : RelV (kV k) u := by
  rcases keyIs_shape h with ⟨i, t, rfl, rfl⟩ | ⟨x, t, rfl, rfl⟩
  · exact ⟨t, rfl⟩
  · exact ⟨t, rfl⟩
section
variable {X : Cx} {pins : List (Addr × Obj)} {σ : St} {H : Hp} {s : Shared} {d : Addr} {o : Obj}
theorem Inv.frzK {kvs : List (Key × V)} (I : Inv X pins σ H s) (h : H d = some (.frz o (.dK kvs))) :
    (d == sysModules) = false ∧ s.heap.get? d = some o ∧ o.ExactDict ∧ ∃ (es : Array DictEntry) (ep : Nat) (vs : List (Key × Value)), o.data = .dict es ep ∧ es.size = kvs.length ∧ KV kvs vs ∧ s.heap.DictAt (mixKind X.prog X.w) d vs ep := by
  obtain ⟨hd, z, hs, vs, kv, o', es, ep, ho, hx, hdt, r⟩ := I.hok d _ h
  rw [hd] at ho
  cases ho
  refine ⟨hs, hd, hx, es, ep, vs, hdt, ?_, kv, o, es, hd, hx, hdt, r⟩
  have l1 := r.2.1.length
  have l2 : kvs.length = vs.length := Paired.length kv
  rw [Array.length_toList] at l1
  omega
/-- the same for tuple keys -/
theorem Inv.frzT {kvs : List (List Key × V)} (I : Inv X pins σ H s) (h : H d = some (.frz o (.dT kvs))) :
    (d == sysModules) = false ∧ s.heap.get? d = some o ∧ o.ExactDict ∧ ∃ (es : Array DictEntry) (ep : Nat), o.data = .dict es ep ∧ es.size = kvs.length ∧
      ∀ (i : Nat) (k : List Key) (v : V), kvs[i]? = some (k, v) → ∃ (en : DictEntry) (q : Addr), es[i]? = some en ∧ en.key = .ref q ∧ H q = some (.tup (k.map kV)) := by
  obtain ⟨hd, z, hs, xs, pr, o', es, ep, ho, hx, hdt, he, _⟩ := I.hok d _ h
  rw [hd] at ho
  cases ho
  refine ⟨hs, hd, hx, es, ep, hdt, ?_, fun i k v e => ?_⟩
  · have l1 : es.size = xs.length := size_of_entries he
    have l2 : kvs.length = xs.length := Paired.length pr
    omega
  · obtain ⟨b, hb, e1, e2, _⟩ := paired_get pr e
    have q := entry_at he i
    rw [hb] at q
    exact ⟨_, b.2.1, q, rfl, e2⟩
end

/-- the keys of the locked dict at d, in their order -/
def Itk (d : Addr) (o : Obj) (kvs : List (Key × V)) : It :=
  ⟨fun i H => H d = some (.frz o (.dK kvs)) ∧ i < kvs.length, fun i H x H' => H' = H ∧ ∃ k v, kvs[i]? = some (k, v) ∧ x = kV k, fun i H => H d = some (.frz o (.dK kvs)) ∧ kvs.length ≤ i⟩
/-- .. of tuple keys: the key's own tuple -/
def Itkt (d : Addr) (o : Obj) (kvs : List (List Key × V)) : It :=
  ⟨fun i H => H d = some (.frz o (.dT kvs)) ∧ i < kvs.length, fun i H x H' => H' = H ∧ ∃ (k : List Key) (v : V) (q : Addr), kvs[i]? = some (k, v) ∧ x = .ref q ∧ H q = some (.tup (k.map kV)), fun i H => H d = some (.frz o (.dT kvs)) ∧ kvs.length ≤ i⟩
/-- the values -/
def Itd (d : Addr) (o : Obj) (kvs : List (Key × V)) : It :=
  ⟨fun i H => H d = some (.frz o (.dK kvs)) ∧ i < kvs.length, fun i H x H' => H' = H ∧ ∃ k, kvs[i]? = some (k, x), fun i H => H d = some (.frz o (.dK kvs)) ∧ kvs.length ≤ i⟩
/-- the pairs, each a new tuple -/
def Iti (d : Addr) (o : Obj) (kvs : List (Key × V)) : It :=
  ⟨fun i H => H d = some (.frz o (.dK kvs)) ∧ i < kvs.length, fun i H x H' => ∃ T k v, kvs[i]? = some (k, v) ∧ x = .ref T ∧ H T = none ∧ H' = upd H T (.tup [kV k, v]), fun i H => H d = some (.frz o (.dK kvs)) ∧ kvs.length ≤ i⟩
theorem dict_ep {o : Obj} {es es' : Array DictEntry} {ep ep' : Nat} (h : o.data = .dict es ep) (h' : o.data = .dict es' ep') : es' = es ∧ ep' = ep := by
  rw [h] at h'
  cases h'
  exact ⟨rfl, rfl⟩
section
variable {P : Program} {w : World} {K : PySem.W.Frag} {tg : Expr} {d : Addr} {o : Obj} {es : Array DictEntry} {ep : Nat}
theorem turn_keys {kvs : List (Key × V)} (it : Addr) (hod : o.data = .dict es ep) : Turn P w K tg (Itk d o kvs) [it] it (fun i h => h.IsKeyIter it d i kvs.length ep) where
  mem := by simp
  obj := fun i h st b hb => by
    have e : b = it := by simpa using hb
    subst e
    obtain ⟨oi, e, c, dd⟩ := st
    exact ⟨oi, e, fun v z => by rw [dd] at z; cases z⟩
  keep := fun i h h' st k => st.at fun oi e => k it (by simp) oi e
  item := by
    intro X hP hw hK hc i pins s σ H E I hf st hg
    subst hP hw hK
    obtain ⟨hd, hi⟩ := hg
    obtain ⟨f0, f1, f2, f3, f4, f5⟩ := hf it (by simp)
    obtain ⟨hs, hgd, hx, es', ep', vs, hdt, hsz, kv, hm⟩ := I.frzK hd
    obtain ⟨rfl, rfl⟩ := dict_ep hod hdt
    obtain ⟨⟨k, v⟩, hkv⟩ : ∃ p, kvs[i]? = some p := ⟨kvs[i], List.getElem?_eq_getElem hi⟩
    obtain ⟨u, hu, ru⟩ := kv_get kv hkv
    have hl : kvs.length = vs.length := Paired.length kv
    rw [hl] at st
    refine wpAny_pyNext_dict_item st hm hu fun key h' hkey st' sb => ?_
    have I1 : Inv X pins σ H { s with heap := h' } := I.turned (t' := s.toks) (fun b ob hb e => (sb.2 b hb).trans e) f0 f1 f3 f4 f5
    obtain ⟨oi, e, c, dd⟩ := id st'
    refine ⟨key, rfl, go_of (s := { s with heap := h' }) e c dd (by decide) ⟨kV k, H, I1, relV_key (show keyIs k key = true from hkey), ⟨rfl, k, v, hkv, rfl⟩, ?_, fun b hb => (hf b hb).1⟩⟩
    show h'.IsKeyIter it d (i + 1) kvs.length _
    rw [hl]
    exact st'
  done := by
    intro X hP hw hK hc i pins s σ H E I hf st hg
    subst hP hw hK
    obtain ⟨hd, hi⟩ := hg
    obtain ⟨f0, f1, f2, f3, f4, f5⟩ := hf it (by simp)
    obtain ⟨hs, hgd, hx, es', ep', vs, hdt, hsz, kv, hm⟩ := I.frzK hd
    obtain ⟨rfl, rfl⟩ := dict_ep hod hdt
    exact next_key_end (I.ok.hd hc) st hgd hdt hsz hi fun h' eb => ⟨rfl, I.turned (t' := s.toks) (fun b ob hb e => eb b ob hb e) f0 f1 f3 f4 f5⟩
  self := fun A i s Q E st h => wpAny_pyIter_keyiter st h
theorem turn_keysT {kvs : List (List Key × V)} (it : Addr) (hod : o.data = .dict es ep) : Turn P w K tg (Itkt d o kvs) [it] it (fun i h => h.IsKeyIter it d i kvs.length ep) where
  mem := by simp
  obj := fun i h st b hb => by
    have e : b = it := by simpa using hb
    subst e
    obtain ⟨oi, e, c, dd⟩ := st
    exact ⟨oi, e, fun v z => by rw [dd] at z; cases z⟩
  keep := fun i h h' st k => st.at fun oi e => k it (by simp) oi e
  item := by
    intro X hP hw hK hc i pins s σ H E I hf st hg
    subst hP hw hK
    obtain ⟨hd, hi⟩ := hg
    obtain ⟨f0, f1, f2, f3, f4, f5⟩ := hf it (by simp)
    obtain ⟨hs, hgd, hx, es', ep', hdt, hsz, ent⟩ := I.frzT hd
    obtain ⟨rfl, rfl⟩ := dict_ep hod hdt
    obtain ⟨⟨k, v⟩, hkv⟩ : ∃ p, kvs[i]? = some p := ⟨kvs[i], List.getElem?_eq_getElem hi⟩
    obtain ⟨en, q, hen, hkey, hq⟩ := ent i k v hkv
    refine next_key_item st hgd hdt hsz hen fun h' st' sb => ?_
    have I1 : Inv X pins σ H { s with heap := h' } := I.turned (t' := s.toks) (fun b ob hb e => (sb.2 b hb).trans e) f0 f1 f3 f4 f5
    obtain ⟨oi, e, c, dd⟩ := id st'
    exact ⟨en.key, rfl, go_of (s := { s with heap := h' }) e c dd (by decide) ⟨.ref q, H, I1, hkey, ⟨rfl, k, v, q, hkv, rfl, hq⟩, st', fun b hb => (hf b hb).1⟩⟩
  done := by
    intro X hP hw hK hc i pins s σ H E I hf st hg
    subst hP hw hK
    obtain ⟨hd, hi⟩ := hg
    obtain ⟨f0, f1, f2, f3, f4, f5⟩ := hf it (by simp)
    obtain ⟨hs, hgd, hx, es', ep', hdt, hsz, ent⟩ := I.frzT hd
    obtain ⟨rfl, rfl⟩ := dict_ep hod hdt
    exact next_key_end (I.ok.hd hc) st hgd hdt hsz hi fun h' eb => ⟨rfl, I.turned (t' := s.toks) (fun b ob hb e => eb b ob hb e) f0 f1 f3 f4 f5⟩
  self := fun A i s Q E st h => by
    refine wpAny_pyIter_slot st.typeIs F.slot_dict_keyiterator_iter (wpAny_call_entry F.slot_dict_keyiterator_iter st.typeIs F.entry_dict_keyiterator_iter ?_ (F.args_dict_keyiterator_iter_1 _))
    show wpAny _ _ (ret (.ref it)) _ _ s
    exact wpAny_pure ⟨_, rfl, "dict_keyiterator", _, st.typeIs, F.slot_dict_keyiterator_next.lookup, h⟩
end

/-! ### for k in d, d.keys(), d.values(), d.items() -/
/-- the dict is locked (tLock, or by the caller) -/
def iKeys (td : TE) : TI := fun σ H R => td σ H fun x H1 => ∃ d o, x = .ref d ∧ ((∃ kvs, H1 d = some (.frz o (.dK kvs)) ∧ R (Itk d o kvs) H1) ∨ ∃ kvs, H1 d = some (.frz o (.dT kvs)) ∧ R (Itkt d o kvs) H1)
def iVals (td : TE) : TI := fun σ H R => td σ H fun x H1 => ∃ d o kvs, x = .ref d ∧ H1 d = some (.frz o (.dK kvs)) ∧ R (Itd d o kvs) H1
def iItems (td : TE) : TI := fun σ H R => td σ H fun x H1 => ∃ d o kvs, x = .ref d ∧ H1 d = some (.frz o (.dK kvs)) ∧ R (Iti d o kvs) H1
def iKeysM (td : TE) : TI := fun σ H R => td σ H fun x H1 => ∃ d o kvs, x = .ref d ∧ H1 d = some (.frz o (.dK kvs)) ∧ R (Itk d o kvs) H1
section
variable {X : Cx} {tg e : Expr} {td : TE} {apos cpos : Pos}
theorem pi_keys (he : PE X e td) : PI X tg e (iKeys td) := by
  intro pins s σ H R I h
  refine thn (he pins s σ H _ I h) fun u s1 ⟨x, H1, I1, rx, d, o, ex, q⟩ => ?_
  subst ex
  obtain rfl : u = Value.ref d := rx
  rcases q with ⟨kvs, hd, q⟩ | ⟨kvs, hd, q⟩
  · obtain ⟨hs, hgd, hx, es, ep, vs, hdt, hsz, kv, hm⟩ := I1.frzK hd
    refine iter_keys hs hgd hx hdt (pi_one (tk := s1.toks) I1 _ (turn_keys _ hdt) ⟨_, Heap.get?_push_size _ rfl, rfl, ?_⟩ q)
    rw [hsz] <;> rfl
  · obtain ⟨hs, hgd, hx, es, ep, hdt, hsz, ent⟩ := I1.frzT hd
    refine iter_keys hs hgd hx hdt (pi_one (tk := s1.toks) I1 _ (turn_keysT _ hdt) ⟨_, Heap.get?_push_size _ rfl, rfl, ?_⟩ q)
    rw [hsz] <;> rfl
end

/-! ### enumerate(list) -/
/-- the list at a as it stands at each turn, each item in a new pair -/
def Ite (K : PySem.W.Frag) (a : Addr) : It :=
  ⟨fun i H => ∃ (xs : List V) (x : V), SqL K H a xs ∧ xs[i]? = some x, fun i H v H' => ∃ T x, v = .ref T ∧ H T = none ∧ H' = upd H T (.tup [.int (i : Nat), x]) ∧ ∀ xs, SqL K H a xs → xs[i]? = some x, fun i H => ∃ xs : List V, SqL K H a xs ∧ xs.length ≤ i⟩
theorem turn_enum {P : Program} {w : World} {K : PySem.W.Frag} {elts : List Expr} {kk : Nat} {tpos : Pos} (a e it : Addr) :
    Turn P w K (.Tuple elts kk tpos) (Ite K a) [e, it] e (fun i h => (∃ old, IsEnum h e it ((i : Nat) : Int) old) ∧ h.IsListIter it a i ∧ e ≠ it) where
  mem := by simp
  obj := fun i h st b hb => by
    obtain ⟨⟨old, he⟩, ⟨o, ho, hc, hd⟩, _⟩ := st
    have e' : b = e ∨ b = it := by simpa using hb
    rcases e' with z | z
    · rw [z]; exact ⟨_, he, fun v q => nomatch q⟩
    · rw [z]; exact ⟨o, ho, fun v q => by rw [hd] at q; cases q⟩
  keep := fun i h h' st k => let ⟨⟨old, he⟩, hi, hne⟩ := st; ⟨⟨old, k e (by simp) _ he⟩, hi.at fun o q => k it (by simp) o q, hne⟩
  item := by
    intro X hP hw hK hc i pins s σ H E I hf st hg
    subst hP hw hK
    obtain ⟨⟨old, he⟩, hit, hne⟩ := st
    obtain ⟨xs, x, hq, hx⟩ := hg
    obtain ⟨its, rv, p, hz⟩ := I.list hq
    obtain ⟨u, hu, ru⟩ := rv.get hx
    have hel : e < s.heap.objs.size := Heap.lt_size he
    have hil : it < s.heap.objs.size := by obtain ⟨_, q, _⟩ := hit; exact Heap.lt_size q
    refine wpAny_pyNext_enum_item he hit p.isList (x := u) (by simpa using hu) hne fun h' ho hit' hT hsz hk => ?_
    refine ⟨_, rfl, wpAny_letOwnedTupleGo_enum (s := { s with heap := h', toks := s.toks + 1 }) ho fun h'' he' sb => ?_⟩
    have hT2 : h''.get? s.heap.objs.size = some { cls := .type "tuple", data := .seq #[.int i s.toks, u] } := (sb.2 _ (Nat.ne_of_gt hel)).trans hT
    have new : ObjOk X.prog X.w (upd H s.heap.objs.size (.tup [.int (i : Nat), x])) h'' s.heap.objs.size (.tup [.int (i : Nat), x]) :=
      ⟨by show 2 ≤ sizeLine; decide, [.int i s.toks, u], .cons ⟨_, rfl⟩ (.cons ru .nil), ⟨_, hT2, rfl, _, rfl⟩⟩
    have I1 : Inv X pins σ (upd H s.heap.objs.size (.tup [.int (i : Nat), x])) { s with heap := h'', toks := s.toks + 1 } :=
      I.turnedNew (ch := [e, it]) (fun b ob hb q => (sb.2 b (fun z => hb (by simp [z]))).trans (hk b ob (fun z => hb (by simp [z])) (fun z => hb (by simp [z])) q)) hf (Nat.le_refl _) new
    refine ⟨.ref s.heap.objs.size, _, I1, rfl, ⟨_, x, rfl, I.hok.fresh (Nat.le_refl _), rfl, fun ys hy => by rw [I.list_inj hy hq]; exact hx⟩, ⟨⟨u, ?_⟩, hit'.at fun o q => (sb.2 it (Ne.symm hne)).trans q, hne⟩, fun b hb => ?_⟩
    · have e1 : ((i + 1 : Nat) : Int) = (i : Int) + 1 := by omega
      rw [e1]; exact he'
    · have hb' : b < s.heap.objs.size := by
        have e' : b = e ∨ b = it := by simpa using hb
        rcases e' with z | z
        · rw [z]; exact hel
        · rw [z]; exact hil
      rw [upd_ne (Nat.ne_of_lt hb')]
      exact (hf b hb).1
  done := by
    intro X hP hw hK hc i pins s σ H E I hf st hg
    subst hP hw hK
    obtain ⟨⟨old, he⟩, hit, hne⟩ := st
    obtain ⟨xs, hq, hx⟩ := hg
    obtain ⟨its, rv, p, hz⟩ := I.list hq
    obtain ⟨f0, f1, f2, f3, f4, f5⟩ := hf it (by simp)
    have hl := rv.length
    exact wpAny_pyNext_enum_end (I.ok.hd hc) he hit p.isList (by simp; omega) fun h' eb => ⟨rfl, I.turned (t' := s.toks) (fun b o hb q => eb b o hb q) f0 f1 f3 f4 f5⟩
  self := fun A i s Q E st h => let ⟨⟨_, he⟩, _⟩ := st; wpAny_pyIter_enum he h
def iEnum (K : PySem.W.Frag) (ta : TA) : TI := fun σ H R => ta σ H fun vs H1 => ∃ a xs, vs = [.ref a] ∧ SqL K H1 a xs ∧ R (Ite K a) H1
theorem pi_enum {X : Cx} {e : Expr} {ta : TA} {p pos tpos : Pos} {elts : List Expr} {kk : Nat} (hg : Gl X "enumerate") (hm : X.mg "enumerate" = none) (ha : PA X [e] ta) (hs : starEach [e] X.env = [(false, eval e X.env)] := by rfl) :
    PI X (.Tuple elts kk tpos) (.Call (.Name "enumerate" p) [e] [] pos) (iEnum X.K ta) := by
  intro pins s σ H R I h
  refine Call_ (ld_blt I hg hm boot_enumerate (PyProof.Rows.callWith_type1 (thn (ha pos pins s σ H _ I h) fun us s1 ⟨vs, H1, I1, r1, q1⟩ => ?_) hs rfl))
  obtain ⟨a, xs, ex, hq, q⟩ := q1
  subst ex
  cases r1 with
  | cons r rr =>
    cases rr
    cases r
    obtain ⟨its, rv, p', hz⟩ := I1.list hq
    refine call_enumerate_list p'.isList fun h' he hit hsz hk => wpAny_pyIter_enum he ?_
    have I2 : Inv X pins σ H1 { s1 with heap := h' } := I1.kept (t' := s1.toks) hk
    refine ⟨s1.heap.objs.size + 1, [s1.heap.objs.size + 1, s1.heap.objs.size], _, _, H1, rfl, I2, turn_enum a (s1.heap.objs.size + 1) s1.heap.objs.size, ⟨⟨.none, he⟩, hit, Nat.succ_ne_self _⟩, fun b hb => ?_, q⟩
    have e' : b = s1.heap.objs.size + 1 ∨ b = s1.heap.objs.size := by simpa using hb
    have hle : s1.heap.objs.size ≤ b := by
      rcases e' with z | z
      · rw [z]; exact Nat.le_add_right _ _
      · rw [z]; exact Nat.le_refl _
    exact I1.fpOk hle (I1.hok.fresh hle)
/-- the lists at a and b as they stand at each turn, the items in new pairs -/
def Itz (K : PySem.W.Frag) (a b : Addr) : It :=
  ⟨fun i H => ∃ (xs ys : List V) (x y : V), SqL K H a xs ∧ SqL K H b ys ∧ xs[i]? = some x ∧ ys[i]? = some y,
    fun i H v H' => ∃ T x y, v = .ref T ∧ H T = none ∧ H' = upd H T (.tup [x, y]) ∧ (∀ xs, SqL K H a xs → xs[i]? = some x) ∧ ∀ ys, SqL K H b ys → ys[i]? = some y,
    fun i H => ∃ xs ys : List V, SqL K H a xs ∧ SqL K H b ys ∧ (xs.length ≤ i ∨ ys.length ≤ i)⟩
def iZip (K : PySem.W.Frag) (ta : TA) : TI := fun σ H R => ta σ H fun vs H1 => ∃ a b xs ys, vs = [.ref a, .ref b] ∧ SqL K H1 a xs ∧ SqL K H1 b ys ∧ R (Itz K a b) H1
end L2

section 
namespace Bits
open PySem PyProof.Rows

end Bits
end 

section 
namespace TL
open PySem PySem.Builtin PySem.Builtin.Str PySem.StrLaws

abbrev tl (x : Str) : List Nat := x.cps.toList
theorem len_tl (x : Str) : x.length = (tl x).length := by simp [tl, Str.length]
theorem ext_tl {x y : Str} (h : tl x = tl y) : x = y := Str.ext' (Array.toList_inj.mp h)
theorem tl_append (x y : Str) : tl (x ++ y) = tl x ++ tl y := by
  show (x ++ y).cps.toList = _
  rw [Str.cps_append, Array.toList_append]
theorem map_tl_inj : ∀ {l m : List Str}, l.map tl = m.map tl → l = m
  | [], [], _ => rfl
  | [], _ :: _, h => by simp at h
  | _ :: _, [], h => by simp at h
  | x :: l, y :: m, h => by
    rw [List.map_cons, List.map_cons] at h
    injection h with h1 h2
    rw [ext_tl h1, map_tl_inj h2]
theorem tl_ofString (s : String) : tl (Str.ofString s) = s.toList.map Char.toNat := PyProof.Rows.signs_ofString s

/-! ### the list functions -/
/-- S stands at the head of l -/
def pre (S l : List Nat) : Bool := l.take S.length == S
/-- l cut at each S from the left; k signs are still to be passed over -/
def spl (S : List Nat) : Nat → List Nat → List Nat → List (List Nat)
  | _, acc, [] => [acc]
  | 0, acc, c :: r => if pre S (c :: r) = true then acc :: spl S (S.length - 1) [] r else spl S 0 (acc ++ [c]) r
  | k + 1, acc, _ :: r => spl S k acc r
/-- what stands before the first S, and behind it -/
def par (S : List Nat) : List Nat → List Nat → Option (List Nat × List Nat)
  | _, [] => none
  | acc, c :: r => if pre S (c :: r) = true then some (acc, (c :: r).drop S.length) else par S (acc ++ [c]) r

theorem spl_nil (S : List Nat) (k : Nat) (acc : List Nat) : spl S k acc [] = [acc] := by cases k <;> rfl
theorem spl_hit {S acc r : List Nat} {c : Nat} (h : pre S (c :: r) = true) : spl S 0 acc (c :: r) = acc :: spl S (S.length - 1) [] r := by
  show (if pre S (c :: r) = true then acc :: spl S (S.length - 1) [] r else spl S 0 (acc ++ [c]) r) = _
  rw [if_pos h]
theorem spl_miss {S acc r : List Nat} {c : Nat} (h : pre S (c :: r) = false) : spl S 0 acc (c :: r) = spl S 0 (acc ++ [c]) r := by
  show (if pre S (c :: r) = true then acc :: spl S (S.length - 1) [] r else spl S 0 (acc ++ [c]) r) = _
  rw [if_neg (by rw [h]; exact Bool.false_ne_true)]
theorem spl_pass (S : List Nat) : ∀ (k : Nat) (acc l : List Nat), spl S k acc l = spl S 0 acc (l.drop k)
  | 0, _, _ => by rw [List.drop_zero]
  | k + 1, acc, [] => by rw [List.drop_nil, spl_nil, spl_nil]
  | k + 1, acc, c :: r => by
    show spl S k acc r = spl S 0 acc (r.drop k)
    exact spl_pass S k acc r
theorem pre_nil {S : List Nat} (hS : S ≠ []) : pre S [] = false := by
  cases S with
  | nil => exact absurd rfl hS
  | cons s S => rfl
theorem pre_of_head {s c : Nat} (S r : List Nat) (h : c ≠ s) : pre (s :: S) (c :: r) = false := by
  cases hp : pre (s :: S) (c :: r) with
  | false => rfl
  | true =>
    have e : (c :: r).take (s :: S).length = s :: S := eq_of_beq hp
    rw [List.length_cons, List.take_succ_cons] at e
    injection e with e1 e2
    exact absurd e1 h
theorem pre_self (S r : List Nat) : pre S (S ++ r) = true := by
  show ((S ++ r).take S.length == S) = true
  have e : (S ++ r).take S.length = S := List.take_left
  rw [e] <;> exact beq_self_eq_true S

theorem getElem_drop_cons {L : List Nat} {a : Nat} (h : a < L.length) : ∃ c, L.drop a = c :: L.drop (a + 1) := ⟨L[a], List.drop_eq_getElem_cons h⟩
theorem spl_run (S L : List Nat) : ∀ (m a : Nat) (acc : List Nat), a + m ≤ L.length → (∀ k, a ≤ k → k < a + m → pre S (L.drop k) = false) →
    spl S 0 acc (L.drop a) = spl S 0 (acc ++ (L.drop a).take m) (L.drop (a + m))
  | 0, a, acc, _, _ => by rw [List.take_zero, List.append_nil, Nat.add_zero]
  | m + 1, a, acc, h, hn => by
    have hlt : a < L.length := by omega
    obtain ⟨c, e⟩ := getElem_drop_cons hlt
    have h0 := hn a (Nat.le_refl _) (by omega)
    have ih := spl_run S L m (a + 1) (acc ++ [c]) (by omega) (fun k h1 h2 => hn k (by omega) (by omega))
    have e2 : a + 1 + m = a + (m + 1) := by omega
    rw [e2] at ih
    rw [e] at h0
    rw [e, spl_miss h0, ih, List.take_succ_cons, List.append_assoc] <;> rfl
theorem drop_two (L : List Nat) (a b : Nat) : (L.drop a).drop b = L.drop (a + b) := by
  first
    | rw [List.drop_drop]
    | rw [List.drop_drop, Nat.add_comm]
theorem spl_at {S L : List Nat} (hS : S ≠ []) {c : Nat} {acc : List Nat} (h : pre S (L.drop c) = true) : spl S 0 acc (L.drop c) = acc :: spl S 0 [] (L.drop (c + S.length)) := by
  rw [← drop_two]
  cases e : L.drop c with
  | nil => rw [e, pre_nil hS] at h; cases h
  | cons d r =>
    rw [e] at h
    rw [spl_hit h, spl_pass]
    cases S with
    | nil => exact absurd rfl hS
    | cons s S => rfl
/-! ### the model's split and partition are these -/
theorem at_iff {x y : Str} (hy : tl y ≠ []) (i : Nat) : At x y x.length i ↔ pre (tl y) ((tl x).drop i) = true := by
  have hx := len_tl x
  have hl := len_tl y
  constructor
  · intro h
    have h2 := h.2
    rw [subAt_eq, hl] at h2
    exact h2
  · intro h
    have e : ((tl x).drop i).take (tl y).length = tl y := eq_of_beq h
    have e1 := congrArg List.length e
    rw [List.length_take, List.length_drop] at e1
    have e2 : 0 < (tl y).length := List.length_pos_iff.mpr hy
    refine ⟨by omega, ?_⟩
    rw [subAt_eq, hl]
    exact h
theorem no_at {x y : Str} (hy : tl y ≠ []) {i : Nat} (h : ¬ At x y x.length i) : pre (tl y) ((tl x).drop i) = false := by
  cases hp : pre (tl y) ((tl x).drop i) with
  | false => rfl
  | true => exact absurd ((at_iff hy i).mpr hp) h
theorem len1 {y : Str} (hy : tl y ≠ []) : 1 ≤ y.length := by
  have e2 : 0 < (tl y).length := List.length_pos_iff.mpr hy
  rw [len_tl y]
  exact e2
theorem tl_strSub (x : Str) (i j : Nat) : tl (strSub x i j) = ((tl x).drop i).take (j - i) := strSub_toList x i j
theorem tl_strSub_end (x : Str) (i : Nat) : tl (strSub x i x.length) = (tl x).drop i := by
  rw [tl_strSub, len_tl x]
  exact List.take_of_length_le (by rw [List.length_drop] <;> omega)

theorem parts_spl {x y : Str} (hy : tl y ≠ []) : ∀ (cuts : List Nat) (a f : Nat), a ≤ (tl x).length → ChainG x y x.length a cuts f → (∀ k, f ≤ k → ¬ At x y x.length k) →
    (partsFrom x y.length a cuts).map tl = spl (tl y) 0 [] ((tl x).drop a)
  | [], a, f, ha, h, hn => by
    have e : f = a := h
    subst e
    show [tl (strSub x f x.length)] = _
    have run := spl_run (tl y) (tl x) ((tl x).length - f) f [] (by omega) (fun k h1 _ => no_at hy (hn k h1))
    have e2 : f + ((tl x).length - f) = (tl x).length := by omega
    rw [e2, List.drop_length, spl_nil, List.nil_append, List.take_of_length_le (by rw [List.length_drop] <;> omega)] at run
    rw [run, tl_strSub_end]
  | c :: r, a, f, ha, h, hn => by
    obtain ⟨h1, h2, h3, h4⟩ := h
    have hc : c + y.length ≤ x.length := h2.1
    have hx := len_tl x
    have hl := len_tl y
    have ih := parts_spl hy r (c + y.length) f (by omega) h4 hn
    show tl (strSub x a c) :: (partsFrom x y.length (c + y.length) r).map tl = _
    have run := spl_run (tl y) (tl x) (c - a) a [] (by omega) (fun k k1 k2 => no_at hy (h3 k k1 (by omega)))
    have e2 : a + (c - a) = c := by omega
    rw [e2, List.nil_append, spl_at hy ((at_iff hy c).mp h2)] at run
    rw [run, ih, tl_strSub, hl]

/-- hk: by kind_ok where the separator is plain -/
theorem split_spl (x y : Str) (hy : tl y ≠ []) (hk : ¬ Builtin.Str.strKind x < Builtin.Str.strKind y) : (Txt.split x y).map tl = spl (tl y) 0 [] (tl x) := by
  obtain ⟨f, g, hn⟩ := occ_tight x y (len1 hy)
  have key := parts_spl hy _ 0 f (Nat.zero_le _) g hn
  rw [List.drop_zero] at key
  have none_case : occurrences x y 0 x.length (x.length + 1) = [] → [x].map tl = spl (tl y) 0 [] (tl x) := fun ho => by
    rw [ho] at key
    rw [← key]
    show [tl x] = [tl (strSub x 0 x.length)]
    rw [sub_whole]
  unfold Txt.split
  by_cases h1 : (decide (x.length < y.length) || decide (Builtin.Str.strKind x < Builtin.Str.strKind y)) = true
  · rw [if_pos h1]
    have hlt : x.length < y.length := by
      simp only [Bool.or_eq_true, decide_eq_true_eq] at h1
      rcases h1 with h | h
      · exact h
      · exact absurd h hk
    refine none_case ?_
    cases ho : occurrences x y 0 x.length (x.length + 1) with
    | nil => rfl
    | cons c r =>
      rw [ho] at g
      have hc : c + y.length ≤ x.length := g.2.1.1
      omega
  · rw [if_neg h1]
    by_cases h2 : (occurrences x y 0 x.length (x.length + 1)).isEmpty = true
    · rw [if_pos h2]
      exact none_case (List.isEmpty_iff.mp h2)
    · rw [if_neg h2, partsBetween_eq]
      exact key
theorem kind_ok {x y : Str} (h : y.cps.all (· < 256) = true) : ¬ Builtin.Str.strKind x < Builtin.Str.strKind y := by
  have e : Builtin.Str.strKind y = 1 := by unfold PySem.Builtin.Str.strKind; rw [if_pos h]
  rw [e]
  unfold PySem.Builtin.Str.strKind
  split
  · omega
  · split <;> omega

/-! ### computing spl and par -/
/-- a part that the separator does not begin in, then the separator -/
theorem spl_part {S p rest acc : List Nat} (hS : S ≠ []) (h : ∀ i, i < p.length → pre S ((p ++ (S ++ rest)).drop i) = false) :
    spl S 0 acc (p ++ (S ++ rest)) = (acc ++ p) :: spl S 0 [] rest := by
  have run := spl_run S (p ++ (S ++ rest)) p.length 0 acc (by rw [List.length_append]; omega) (fun k _ k2 => h k (by omega))
  have ed : (p ++ (S ++ rest)).drop p.length = S ++ rest := List.drop_left
  rw [List.drop_zero, Nat.zero_add, List.take_left] at run
  rw [run, spl_at hS (by rw [ed]; exact pre_self S rest), ← drop_two, ed, List.drop_left]
theorem spl_last {S p acc : List Nat} (h : ∀ i, i < p.length → pre S (p.drop i) = false) : spl S 0 acc p = [acc ++ p] := by
  have run := spl_run S p p.length 0 acc (by omega) (fun k _ k2 => h k (by omega))
  rw [List.drop_zero, Nat.zero_add, List.drop_length, spl_nil, List.take_length] at run
  exact run
/-- the separator's first sign is not in the part -/
theorem free_of {s : Nat} {S p q : List Nat} (h : s ∉ p) : ∀ i, i < p.length → pre (s :: S) ((p ++ q).drop i) = false := fun i hi => by
  have hlt : i < (p ++ q).length := by rw [List.length_append]; omega
  have e : (p ++ q).drop i = (p ++ q)[i] :: (p ++ q).drop (i + 1) := List.drop_eq_getElem_cons hlt
  rw [e]
  refine pre_of_head _ _ fun z => h ?_
  have e1 : (p ++ q)[i] = p[i] := List.getElem_append_left hi
  rw [← z, e1]
  exact List.getElem_mem hi
theorem spl_part1 {s : Nat} {S p rest acc : List Nat} (h : s ∉ p) : spl (s :: S) 0 acc (p ++ (s :: S ++ rest)) = (acc ++ p) :: spl (s :: S) 0 [] rest :=
  spl_part (by simp) (free_of h)
theorem spl_last1 {s : Nat} {S p acc : List Nat} (h : s ∉ p) : spl (s :: S) 0 acc p = [acc ++ p] := spl_last fun i hi => by
  have z := free_of (S := S) (q := []) h i hi
  rw [List.append_nil] at z
  exact z
/-- joined lists -/
def joinL (S : List Nat) : List (List Nat) → List Nat
  | [] => []
  | [p] => p
  | p :: q :: r => p ++ (S ++ joinL S (q :: r))
theorem tl_join (y : Str) : ∀ parts : List Str, tl (Str.join y parts) = joinL (tl y) (parts.map tl)
  | [] => rfl
  | [_] => rfl
  | x :: z :: r => by
    show tl (x ++ y ++ Str.join y (z :: r)) = tl x ++ (tl y ++ joinL (tl y) ((z :: r).map tl))
    rw [tl_append, tl_append, tl_join y (z :: r), List.append_assoc]
theorem spl_join {s : Nat} {S : List Nat} : ∀ {parts : List (List Nat)}, parts ≠ [] → (∀ p ∈ parts, s ∉ p) → spl (s :: S) 0 [] (joinL (s :: S) parts) = parts
  | [], h, _ => absurd rfl h
  | [p], _, hp => by
    show spl (s :: S) 0 [] p = [p]
    rw [spl_last1 (hp p (List.mem_singleton.mpr rfl)), List.nil_append]
  | p :: q :: r, _, hp => by
    show spl (s :: S) 0 [] (p ++ (s :: S ++ joinL (s :: S) (q :: r))) = p :: q :: r
    rw [spl_part1 (hp p (List.mem_cons_self ..)), List.nil_append, spl_join (by simp) fun z hz => hp z (List.mem_cons_of_mem _ hz)]
theorem join_eq (y : Str) (parts : List Str) : Txt.join y parts = Str.join y parts := glued_eq_join y parts
/-- THE READ-BACK: a joined text, split -/
theorem split_join {y : Str} {s : Nat} {S : List Nat} (ey : tl y = s :: S) (hk : y.cps.all (· < 256) = true) {parts : List Str} (hne : parts ≠ []) (hp : ∀ p ∈ parts, s ∉ tl p) :
    Txt.split (Txt.join y parts) y = parts := by
  refine map_tl_inj ?_
  rw [split_spl _ y (by rw [ey]; simp) (kind_ok hk), join_eq, tl_join, ey]
  refine spl_join (fun e => hne (List.map_eq_nil_iff.mp e)) fun p h => ?_
  obtain ⟨z, hz, rfl⟩ := List.mem_map.mp h
  exact hp z hz
/-! ### digits -/
/-- the signs of a number -/
def numL (n : Nat) : List Nat := (Nat.toDigits 10 n).map Char.toNat
theorem tl_num (n : Nat) : tl (Str.ofString (toString ((n : Nat) : Int))) = numL n := PySem.W.KIN.signs_num n
theorem digitChar_nat : ∀ d : Nat, d < 10 → (Nat.digitChar d).toNat = 48 + d := by decide
theorem numL_lt {n : Nat} (h : n < 10) : numL n = [48 + n] := by
  unfold numL
  rw [Nat.toDigits_of_lt_base h]
  show [(Nat.digitChar n).toNat] = _
  rw [digitChar_nat n h]
theorem numL_step {n : Nat} (h : 10 ≤ n) : numL n = numL (n / 10) ++ [48 + n % 10] := by
  have hm : n % 10 < 10 := Nat.mod_lt n (by decide)
  have t : Nat.toDigits 10 (n / 10) ++ Nat.toDigits 10 (n % 10) = Nat.toDigits 10 (10 * (n / 10) + n % 10) := Nat.toDigits_append_toDigits (by decide) (by omega) hm
  rw [Nat.div_add_mod] at t
  show (Nat.toDigits 10 n).map Char.toNat = _
  rw [← t, List.map_append, Nat.toDigits_of_lt_base hm]
  show (Nat.toDigits 10 (n / 10)).map Char.toNat ++ [(Nat.digitChar (n % 10)).toNat] = _
  rw [digitChar_nat _ hm] <;> rfl
theorem numL_digits (n : Nat) : NumText.AllDigits (numL n) := by
  induction n using Nat.strongRecOn with
  | _ n ih =>
    by_cases h : n < 10
    · rw [numL_lt h]
      intro c hc
      rw [List.mem_singleton.mp hc]
      omega
    · rw [numL_step (by omega)]
      intro c hc
      rcases List.mem_append.mp hc with hc | hc
      · exact ih (n / 10) (by omega) c hc
      · have hm : n % 10 < 10 := Nat.mod_lt n (by decide)
        rw [List.mem_singleton.mp hc]
        omega
theorem numL_ne (n : Nat) : numL n ≠ [] := by
  by_cases h : n < 10
  · rw [numL_lt h]
    simp
  · rw [numL_step (by omega)]
    simp
theorem numL_free {n s : Nat} (h : s < 48 ∨ 57 < s) : s ∉ numL n := fun hm => by
  have r := numL_digits n s hm
  omega
theorem numL_val (n : Nat) : NumText.digitsVal (numL n) = n := PySem.W.KIN.val_back n
theorem numL_len {n k : Nat} (hk : 0 < k) (h : n < 10 ^ k) : (numL n).length ≤ k := by
  have z := PyProof.Rows.toString_length_le (v := (n : Int)) (by omega) hk (by
    have e : ((10 : Int) ^ k) = ((10 ^ k : Nat) : Int) := by
      first
        | exact (Int.natCast_pow 10 k).symm
        | simp
    rw [e]
    first | exact Int.ofNat_lt.mpr h | omega)
  rw [len_tl, tl_num] at z
  exact z
/-- int(str(n)) -/
theorem int_num {n : Nat} (h : (numL n).length ≤ 4300) : intText? (Str.ofString (toString ((n : Nat) : Int))) = some (n : Int) := by
  have e := intText_digits (x := Str.ofString (toString ((n : Nat) : Int))) (by rw [show (Str.ofString (toString ((n : Nat) : Int))).cps.toList = numL n from tl_num n]; exact numL_digits n)
    (by rw [show (Str.ofString (toString ((n : Nat) : Int))).cps.toList = numL n from tl_num n]; exact numL_ne n) (by rw [len_tl, tl_num]; exact h)
  rw [show (Str.ofString (toString ((n : Nat) : Int))).cps.toList = numL n from tl_num n, numL_val] at e
  exact e
/-! ### words: x.split() -/
def wstep (st : List (List Nat) × List Nat) (c : Nat) : List (List Nat) × List Nat :=
  if Unicode.isSpace c = true then (if st.2 = [] then st else (st.1 ++ [st.2], [])) else (st.1, st.2 ++ [c])
def wfin (st : List (List Nat) × List Nat) : List (List Nat) := if st.2 = [] then st.1 else st.1 ++ [st.2]
end TL
end 

namespace L2
open PySem PySem.Spec PyProof.Rows

/-- a list of texts, of numbered texts -/
theorem vals_strs : ∀ l : List (Str × Tok), Vals ((l.map (·.1)).map V.str) (strValues l)
  | [] => .nil
  | p :: r => .cons ⟨p.2, rfl⟩ (vals_strs r)
theorem strs_of_vals : ∀ {ys : List Str} {us : List Value}, Vals (ys.map V.str) us → StrsAre us ys
  | [], _, .nil => .nil
  | y :: ys, _, .cons r t => by
    obtain ⟨k, rfl⟩ := r
    exact .cons y k (strs_of_vals t)

/-- a new list of texts, tracked -/
def rNewStrs (ys : List Str) : Hp → VK → Prop := fun H Q => ∀ p, H p = none → Q (.ref p) (upd H p (.lst (ys.map V.str)))

section
variable {X : Cx} {pins : List (Addr × Obj)} {σ : St} {H : Hp} {s : Shared} {Q : VK}
theorem laid_strs {l : List (Str × Tok)} {ys : List Str} {k : Nat} (I : Inv X pins σ H s) (e : l.map (·.1) = ys) (hz : ys.length ≤ sizeLine) (h : rNewStrs ys H Q) :
    EP X pins σ Q (.ref s.heap.objs.size) { s with toks := k, heap := s.heap.push { cls := .type "list", data := .seq (strValues l).toArray } } := by
  have hp := I.hok.fresh (Nat.le_refl _)
  refine ⟨.ref s.heap.objs.size, upd H s.heap.objs.size (.lst (ys.map V.str)), I.laid (fun b u q => Heap.get?_push_of_some _ q) (Nat.le_refl _) ⟨by rw [List.length_map]; exact hz, strValues l, _, ?_, Heap.get?_push_size _ rfl⟩, rfl, h _ hp⟩
  rw [← e]
  exact vals_strs l
end

section
variable {X : Cx}

/-- x.split(sep) -/
theorem mt_split : MtR X "str.split" (fun x xs H Q => ∃ a b, x = .str a ∧ xs = [.str b] ∧ (b.length == 0) = false ∧ a.length + 2 ≤ sizeLine ∧ rNewStrs (Txt.split a b) H Q) := by
  intro pins s σ H x xs v us Q I rx rs h
  obtain ⟨a, b, rfl, rfl, hb, hz, h⟩ := h
  obtain ⟨t, rfl⟩ := rx
  cases rs with
  | cons r1 rs =>
    cases rs
    obtain ⟨u, rfl⟩ := r1
    have hl : (Txt.split a b).length ≤ sizeLine := Nat.le_trans (PyProof.Rows.split_le a b) hz
    have hn : (Builtin.Str.partsBetween a (Builtin.Str.occurrences a b 0 a.length (a.length + 1)) b.length).length ≤ sizeLine := by
      have e1 := StrLaws.occ_length_le a b 0 a.length (a.length + 1)
      rw [length_partsBetween]; omega
    cases h1 : (decide (a.length < b.length) || decide (Builtin.Str.strKind a < Builtin.Str.strKind b))
    · cases hf : (Builtin.Str.occurrences a b 0 a.length (a.length + 1)).isEmpty
      · refine call_meets F.slot_str_split (typeIs_str _ _ _) F.entry_str_split (F.args_str_split_2 _ _) (meets_str_split_sep a b t u h1 hb hf (by omega) hn) ?_
        show EP X pins σ Q (.ref s.heap.objs.size) { s with toks := _, heap := s.heap.push { cls := .type "list", data := .seq (strsFrom s.toks (Builtin.Str.partsBetween a (Builtin.Str.occurrences a b 0 a.length (a.length + 1)) b.length)).toArray } }
        rw [strsFrom_eq]
        exact laid_strs (ys := Txt.split a b) I ((numbered_texts _ _).trans ((if_neg (ne_true_of_eq_false h1)).trans (if_neg (ne_true_of_eq_false hf))).symm) hl h
      · refine call_meets F.slot_str_split (typeIs_str _ _ _) F.entry_str_split (F.args_str_split_2 _ _) (meets_str_split_not_found a b t u h1 hb hf) ?_
        exact laid_strs (l := [(a, t)]) (ys := Txt.split a b) (k := s.toks) I ((if_neg (ne_true_of_eq_false h1)).trans (if_pos hf)).symm hl h
    · refine call_meets F.slot_str_split (typeIs_str _ _ _) F.entry_str_split (F.args_str_split_2 _ _) (meets_str_split_cannot_occur a b t u h1) ?_
      exact laid_strs (l := [(a, t)]) (ys := Txt.split a b) (k := s.toks) I (if_pos h1).symm hl h

/-- sep.join(a list | a tuple of texts) -/
theorem mt_join : MtR X "str.join" (fun x xs H Q => ∃ a p, ∃ ys : List Str, x = .str a ∧ xs = [.ref p] ∧ (SqL X.K H p (ys.map V.str) ∨ SqT X.K H p (ys.map V.str)) ∧
    (ys.map (·.length)).sum + ys.length * a.length ≤ 16777216 ∧ Q (.str (Txt.join a ys)) H) := by
  intro pins s σ H x xs v us Q I rx rs h
  obtain ⟨a, p, ys, rfl, rfl, hp, hz, h⟩ := h
  obtain ⟨t, rfl⟩ := rx
  cases rs with
  | cons r1 rs =>
    cases rs
    cases r1
    rcases hp with hp | hp
    · obtain ⟨its, r, ⟨o, n, ho, hc, _, hd⟩, _⟩ := I.list hp
      exact PyProof.Rows.join_list (items := its.toArray) ⟨o, ho, hc, n, hd⟩ (by rw [List.toList_toArray]; exact strs_of_vals r) hz fun t' k => ⟨.str _, H, I.tok k, ⟨t', rfl⟩, h⟩
    · obtain ⟨its, r, ht, _⟩ := I.tuple hp
      exact PyProof.Rows.join_tuple (items := its.toArray) ht (by rw [List.toList_toArray]; exact strs_of_vals r) hz fun t' k => ⟨.str _, H, I.tok k, ⟨t', rfl⟩, h⟩

/-- int(text) -/
theorem call_int_str : CallR X (.type "int") (fun xs H Q => ∃ a n, xs = [.str a] ∧ PySem.intText? a = some n ∧ a.length ≤ 640 ∧ Q (.int n) H) := by
  intro pins s σ H xs us Q I rs h
  obtain ⟨a, n, rfl, hn, hl, h⟩ := h
  cases rs with
  | cons r1 rs =>
    cases rs
    obtain ⟨t, rfl⟩ := r1
    exact PySem.W.KIN.call_text hn hl ⟨.int n, H, I.tok _, ⟨_, rfl⟩, h⟩
end

section
variable {X : Cx} {o e : Expr} {to te : TE}
def tM0 (r : V → List V → Hp → VK → Prop) (to : TE) : TE := fun σ H Q => to σ H fun x H1 => (∃ a, x = .str a) ∧ r x [] H1 Q
def tM1 (r : V → List V → Hp → VK → Prop) (to te : TE) : TE := fun σ H Q => to σ H fun x H1 => (∃ a, x = .str a) ∧ te σ H1 fun y H2 => r x [y] H2 Q
theorem pe_m1 {id : String} {name : Str} {apos pos : Pos} {r : V → List V → Hp → VK → Prop} (slot : Slot "str" name id) (ty : typeOf (.builtin id) = pure (.type "method_descriptor")) (rule : MtR X id r) (ho : PE X o to) (he : PE X e te)
    (hs : starEach [e] X.env = [(false, eval e X.env)] := by rfl) (hbase : attributeBase o name X.env (eval o X.env) = eval o X.env := by rfl) (hline : (apos.endLine == pos.line) = true := by rfl) :
    PE X (.Call (.Attribute o name apos) [e] [] pos) (tM1 r to te) := by
  intro pins s σ H Q I h
  refine PySem.Call_method1 hbase hs hline (thn (ho pins s σ H _ I h) fun v s1 ⟨x, H1, I1, r1, q1⟩ => ?_)
  obtain ⟨⟨a, rfl⟩, q1⟩ := q1
  obtain ⟨t, rfl⟩ := _root_.id r1
  refine ⟨"str", _, F.plainAttrs_str, slot, ty, typeIs_str _ _ _, (fun _ e => nomatch e), Calls.callWith_builtin rfl (Calls.evalArgs_plain (Calls.spliced_cons ?_))⟩
  exact thn (he pins s1 σ H1 _ I1 q1) fun u s2 ⟨y, H2, I2, r2, q2⟩ => Calls.spliced_nil (rule pins s2 σ H2 _ [y] _ [u] Q I2 r1 (.cons r2 .nil) q2)

theorem pe_split {apos pos : Pos} (ho : PE X o to) (he : PE X e te) (hs : starEach [e] X.env = [(false, eval e X.env)] := by rfl) (hbase : attributeBase o "split" X.env (eval o X.env) = eval o X.env := by rfl) (hline : (apos.endLine == pos.line) = true := by rfl) :
    PE X (.Call (.Attribute o "split" apos) [e] [] pos) (tM1 (fun x xs H Q => ∃ a b, x = .str a ∧ xs = [.str b] ∧ (b.length == 0) = false ∧ a.length + 2 ≤ sizeLine ∧ rNewStrs (Txt.split a b) H Q) to te) :=
  pe_m1 F.slot_str_split F.type_str_split mt_split ho he hs hbase hline
end
end L2

namespace L2
open PySem PySem.Spec PyProof.Rows

section
variable {X : Cx}
/-- one sign in a text -/
theorem op_in_sign : OpR X (compareOp .In) (fun x y H Q => ∃ (c : Nat) (z : Str), x = .str ⟨#[c]⟩ ∧ y = .str z ∧ Q (.bl (decide (c ∈ z.cps.toList))) H) := by
  intro pins s σ H x y v u Q I rx ry h
  obtain ⟨c, z, rfl, rfl, q⟩ := h
  obtain ⟨t, rfl⟩ := rx
  obtain ⟨t', rfl⟩ := ry
  exact PyProof.Rows.in_str (fin_bl I q (PySem.StrLaws.found_one z c).symm)
end

/-! ### slices of a text -/
theorem IsPart.raw {v : Value} {o : Option Int} (p : IsPart v o) : ∃ l : Option (Int × Tok), v = partValue l ∧ l.map (·.1) = o := by
  cases p with
  | none => exact ⟨none, rfl, rfl⟩
  | int i t => exact ⟨some (i, t), rfl, rfl⟩

/-- a part, clipped, as the text's slice reckons it -/
def clipS (n d : Nat) : Option Int → Int
  | none => (d : Int)
  | some i => max 0 (min (if i < 0 then i + (n : Int) else i) (n : Int))
/-- z[lo:hi] -/
def cutS (z : Str) (lo hi : Option Int) : Str :=
  ⟨((z.cps.toList.drop (HT.sIx z.length 0 lo)).take (HT.sIx z.length z.length hi - HT.sIx z.length 0 lo)).toArray⟩
def rSlS : V → Option Int → Option Int → Hp → VK → Prop := fun x lo hi H Q => ∃ z, x = .str z ∧ z.length ≤ sizeLine ∧ Q (.str (cutS z lo hi)) H
end L2

namespace Att
open PySem PySem.W PySem.Calls PyProof.Rows

/-! ### the script -/
theorem ints_of_wellAll {P : Params} {h : Heap} : ∀ (ns : List Int) (vs : List Value), WellAll P h vs (ns.map WData.int) → IntsAre vs ns := by
  intro ns
  induction ns with
  | nil =>
    intro vs w
    rw [List.map_nil] at w
    cases w
    exact .nil
  | cons n ns ih =>
    intro vs w
    rw [List.map_cons] at w
    cases w with
    | cons a b =>
      cases a
      exact .cons _ _ (ih _ b)

theorem script_of {l : OpenLaw} {n : Nat} (hn : l.most = some n) {P : Params} {h : Heap} {args : List WData} {vals : List Value}
    (hpre : l.row.toRowW.claim.pre args = true) (hwl : WellAll P h vals args) :
    ∃ a vs ns, vals = [Value.ref a] ∧ args = [WData.list (ns.map WData.int)] ∧ h.get? a = some { cls := .type "list", data := .seq vs.toArray } ∧ IntsAre vs ns ∧ ns.length ≤ n := by
  have hsh : WShape.hasAll [] args [.list .int] = true := (pre_splitW hpre).1
  have hc : l.pre.holds [] { args := args } = true := (pre_splitW hpre).2
  obtain ⟨d, r, rfl, h1, h2⟩ := hasAllW_cons hsh
  obtain rfl := hasAllW_nil h2
  obtain ⟨xs, rfl, h3⟩ := hasW_list h1
  obtain ⟨ns, rfl⟩ := items_int h3
  have hlen : ns.length ≤ n := by
    unfold OpenLaw.pre at hc
    have h4 : (WTm.not (.lt (.lit (.int (n : Int))) (.len (.arg 0)))).holds [] { args := [.list (ns.map .int)] } = true := by
      have h4 := (holds_andW hc).1
      rw [hn] at h4
      exact h4
    have h5 := condW_of h4 (w_not (w_lt w_lit (w_len_list (w_arg rfl))))
    rw [List.length_map] at h5
    refine Nat.le_of_not_lt fun q => ?_
    have q' : (n : Int) < ((ns.length : Nat) : Int) := by omega
    first
      | (rw [decide_eq_true q'] at h5; exact absurd h5 (by decide))
      | (simp at h5; omega)
  cases hwl with
  | cons w1 w2 =>
    cases w2
    cases w1 with
    | list ho hall => exact ⟨_, _, ns, rfl, rfl, ho, ints_of_wellAll ns _ hall, hlen⟩

theorem post_true (l : OpenLaw) (args : List WData) : l.row.toRowW.claim.post args (.bool true) args = true :=
  postW_of (r := l.row.toRowW) (X := (true == true))
    (show WShape.has [] (.bool true) .bool = true by first | rfl | decide | simp [WShape.has, WShape.arms, WShape.armsAll])
    (show (WTm.eq .res (.lit (.bool true))).value [] { args := args, res := some (.bool true), after := args } = some (.bool (true == true)) from w_eq_bool (w_res rfl) w_lit) rfl

/-- the same from a codeAny of the CALL (for a layer whose function contracts speak of calls) -/
theorem attach_call {l : OpenLaw} {n : Nat} {q : Program} {loose : List Str} {XP : (Str → Option Value) → Heap → Prop} {YP : World → Heap → Prop} {d : DefRec}
    (hn : l.most = some n) (hdf : d.params.defaults = [])
    (call : ∀ (w : World) (s₀ s₁ : Shared) (mg mb : Str → Option Value) (fa : Addr) (o : Obj) (pm cd doc : Value) (a : Addr) (vs : List Value) (ns : List Int),
      Ground q loose [] XP w s₀ mg mb s₁.heap → YP w s₁.heap →
      s₁.heap.get? fa = some o → o.data = .func (docDef d.name d.params d.body d.scope pm cd doc) → s₁.heap.CodeRec cd d.name → mg d.name = some (.ref fa) →
      s₁.heap.get? a = some { cls := .type "list", data := .seq vs.toArray } → IntsAre vs ns → ns.length ≤ n → s₁.gens = #[] →
      codeAny (model l.prog w) callerA (.call (.ref fa) ⟨[.ref a], []⟩) (fun r s' => r = .ok (.ret (.bool true)) ∧ OldK s₁.heap s'.heap ∧ s'.os = s₁.os ∧ AllBare s'.gens) s₁) :
    WalkO q loose XP YP l.row.toRowW d [] (fun f vs => PySem.call f vs) := by
  intro w s₀ s₁ mg mb G Y fa o pm cd doc dV kV ho hd hcd hD hmg hg args vals as hpre hlay hrd hwl hlo
  obtain rfl : dV = .none := Dflts.none hD hdf
  obtain rfl : kV = .none := Dflts.noKw hD
  obtain ⟨a, vs, ns, rfl, rfl, hobj, hints, hlen⟩ := script_of hn hpre hwl
  refine enter_call (codeAny_mono (call w s₀ s₁ mg mb fa o pm cd doc a vs ns G Y ho (fd_plain hd) hcd hmg hobj hints hlen hg) fun r s' hq => ?_)
  obtain ⟨rfl, h2, h3, h4⟩ := hq
  exact ⟨.inl ⟨.bool true, .bool true, [], rfl, fun _ => rfl, .bool true, post_true l _, fun _ => ⟨List.Pairwise.nil, fun _ hm => (nomatch hm)⟩⟩, h2, h3, h4⟩

/-! ### rules over ANY heap (no ledger) from facts about the written part K: the library's own take a ledger (News) for what they write -/
section
variable {prog : Program} {w : World} {A : Around} {E : Value → Shared → Prop} {s : Shared} {K : Frag}

/-! the whole heap as the ledger: makes every rule that writes through a ledger a rule over any heap -/
def noObjs (h : Heap) : Heap := { h with objs := #[] }
def ledger (h : Heap) (L d : Addr) : List (Addr × Obj) := (List.range h.objs.size).filterMap fun a => if a = L ∨ a = d then none else (h.get? a).map fun o => (a, o)
end
end Att

namespace L2
open PySem PySem.Spec PyProof.Rows

theorem vals_ints : ∀ {vs : List Value} {ns : List Int}, IntsAre vs ns → Vals (ns.map V.int) vs
  | _, _, .nil => .nil
  | _, _, .cons n t h => .cons ⟨t, rfl⟩ (vals_ints h)

/-- nothing is tracked but the script, known to the object (or it is an object of the module) -/
def Only (H : Hp) : Prop := ∀ b, H b = none ∨ ∃ o xs, H b = some (.frz o (.lst xs))

/-- THE HEAD: the law's promise, at the heap behind the top. F, the promise of the law's def, may use that base is part of the heap (so K.In base, base.Ns mainGlobals mg stand in Mod) -/
theorem law_call {P : Program} {w : World} {K : PySem.W.Frag} {mg mb : Str → Option Value} {CX : CXT} {k : Nat} {fa a : Addr} {fd : FuncData} {x : Str} {sp : Sp} {s₁ : Shared} {vs : List Value} {ns : List Int}
    (KX : K.In s₁.heap) (hns : s₁.heap.Ns mainGlobals mg) (hb : s₁.heap.Ns builtinsNs mb) (hbb : ∀ x : Str, x ≠ "__name__" → mb x = bootBuiltins x) (hlim : s₁.heap.NoLimit) (hg : s₁.gens = #[])
    (ha : s₁.heap.get? a = some { cls := .type "list", data := .seq vs.toArray }) (hi : IntsAre vs ns) (hl : ns.length ≤ sizeLine) (hr : Room k callerA)
    (F : ∀ base : Heap, K.In base → base.Ns mainGlobals mg → FnOk P w K mg base CX k fa fd [x] sp) (hbind : ∀ (s : Shared) (u : Value), BindsTo s fd ⟨[u], []⟩ [(x, u)])
    (hsp : ∀ H : Hp, Only H → SqL K H a (ns.map V.int) → sp [.ref a] H (fun v _ => v = .bl true) fun _ _ _ => False)
    (hCX : ∀ H e s', CX [] H s₁ (fun _ _ _ => False) e s' → False) :
    codeAny (model P w) callerA (.call (.ref fa) ⟨[.ref a], []⟩) (fun r s' => r = .ok (.ret (.bool true)) ∧ OldK s₁.heap s'.heap ∧ s'.os = s₁.os ∧ AllBare s'.gens) s₁ := by
  have rv := vals_ints hi
  have lenV := hi.length
  -- from an abstract heap in which nothing but the script may be tracked
  have core : ∀ H : Hp, Only H → SqL K H a (ns.map V.int) → HOk P w H s₁.heap → (∀ b, H b ≠ none → b = a) → (H a ≠ none → K.lookup a = none) →
      codeAny (model P w) callerA (.call (.ref fa) ⟨[.ref a], []⟩) (fun r s' => r = .ok (.ret (.bool true)) ∧ OldK s₁.heap s'.heap ∧ s'.os = s₁.os ∧ AllBare s'.gens) s₁ := by
    intro H hO hS hok hA hK
    have base_of : ∀ {b : Addr} {o : Obj}, s₁.heap.get? b = some o → H b = none → (hidT s₁.heap H).get? b = some o := fun e n => hidT_get e n
    have noA : ∀ {b : Addr} {o : Obj} {es : Array DictEntry} {ep : Nat}, s₁.heap.get? b = some o → o.data = .dict es ep → H b = none := fun {b o es ep} e d => by
      cases q : H b with
      | none => rfl
      | some u =>
        have e' : b = a := hA b (by rw [q]; simp)
        subst e'
        rw [ha] at e; cases e
        have d' : Data.seq vs.toArray _ = Data.dict es ep := d
        cases d'
    have nsK : ∀ {b : Addr} {m : Str → Option Value}, s₁.heap.Ns b m → (hidT s₁.heap H).Ns b m := fun {b m} ⟨o, es, ep, e, d, r⟩ => ⟨o, es, ep, base_of e (noA e d), d, r⟩
    have hKb : K.In (hidT s₁.heap H) := fun b o e => base_of (KX b o e) (by
      cases q : H b with
      | none => rfl
      | some u =>
        have e' : b = a := hA b (by rw [q]; simp)
        subst e'
        rw [hK (by rw [q]; simp)] at e; cases e)
    have hM : Mod K mg (hidT s₁.heap H) := ⟨hKb, nsK hns, ⟨mb, nsK hb, hbb⟩, let ⟨mc, h1, h2⟩ := hlim; ⟨mc, nsK h1, h2⟩⟩
    have e0 : Env0 P w K mg (hidT s₁.heap H) callerA [] s₁ H := ⟨rfl, hM, fun b o e => of_hidT e, Nat.le_of_eq (hidT_size _ _), trivial, fun b hb => absurd (show b ∈ ([] : List Addr) from hb) (by simp), hok, .of_eq hg⟩
    refine codeAny_mono ((F _ hKb (nsK hns)).run callerA [] s₁ H ⟨[.ref a], []⟩ [.ref a] [.ref a] _ _ hr e0 (hbind s₁ (.ref a)) (.cons rfl .nil) (hsp H hO hS)) fun r s' h => ?_
    cases r with
    | error e => exact (hCX H e s' h).elim
    | ok fl =>
      cases fl with
      | next => exact False.elim h
      | brk => exact False.elim h
      | cont => exact False.elim h
      | ret u =>
        obtain ⟨v, H', os, bare, un, hok', r', q⟩ := h
        have q' : v = .bl true := q
        subst q'
        obtain rfl : u = Value.bool true := r'
        refine ⟨rfl, OldK.of_keep fun b o e => ?_, os, bare⟩
        cases q : H b with
        | none => exact un.keep b o e q (by intro z; exact absurd (show b ∈ ([] : List Addr) from z) (by simp)) (by simp)
        | some u =>
          rcases hO b with z | ⟨ob, xs, z⟩
          · rw [q] at z; cases z
          · have z2 := un.frzs b ob _ z
            obtain ⟨e1, _⟩ := hok b _ z
            obtain ⟨e2, _⟩ := hok' b _ z2
            rw [e] at e1; cases e1
            exact e2
  cases hk : K.lookup a with
  | some o =>
    -- the script is one of the module's own objects
    have e := KX a o hk
    rw [ha] at e
    cases e
    refine core (fun _ => none) (fun _ => .inl rfl) (.inr ⟨_, vs.toArray, _, hk, rfl, rfl, rfl, by rw [List.size_toArray, lenV]; exact hl, by simpa using rv⟩) (fun b u z => by have z' : (none : Option HO) = some u := z; cases z') (fun b z => absurd rfl z) fun z => absurd rfl z
  | none =>
    refine core (fun b => if b = a then some (.frz { cls := .type "list", data := .seq vs.toArray } (.lst (ns.map V.int))) else none) (fun b => ?_) (.inl (.inr ⟨{ cls := .type "list", data := .seq vs.toArray }, if_pos rfl⟩)) (fun b u z => ?_) (fun b z => ?_) fun _ => hk
    · by_cases hb : b = a
      · exact .inr ⟨_, _, if_pos hb⟩
      · exact .inl (if_neg hb)
    · by_cases hb : b = a
      · have z' := (if_pos hb).symm.trans z
        cases z'
        subst hb
        exact ⟨ha, by rw [List.length_map]; exact hl, vs, _, rv, ha⟩
      · have z' := (if_neg hb).symm.trans z
        cases z'
    · by_cases hb : b = a
      · exact hb
      · exact absurd (if_neg hb) z
end L2

namespace L2
open PySem PySem.Spec PyProof.Rows

abbrev KOf {K : PySem.W.Frag} {h : Heap} (_ : K.In h) : PySem.W.Frag := K

/-- the goal that k_head leaves (case hc), from the law's promise. F gives the function object fd (K's own) once, then the promise over every base -/
theorem walk_of {l : PySem.W.OpenLaw} {n k : Nat} {q : Program} {loose : List Str} {XP : (Str → Option Value) → Heap → Prop} {YP : World → Heap → Prop} {d : DefRec} {K : Params → PySem.W.Frag} {CX : World → CXT} {sp : World → Sp} {x : Str}
    (hn : l.most = some n) (hn2 : n ≤ sizeLine) (hdf : d.params.defaults = []) (hr : Room k callerA)
    (hY : ∀ (w : World) (h : Heap), YP w h → (K w.params).In h)
    (F : ∀ (w : World) (mg : Str → Option Value) (fa : Addr) (h : Heap), (K w.params).In h → h.Ns mainGlobals mg → mg d.name = some (.ref fa) →
      ∃ fd : FuncData, (∀ (s : Shared) (u : Value), BindsTo s fd ⟨[u], []⟩ [(x, u)]) ∧
        ∀ base : Heap, (K w.params).In base → base.Ns mainGlobals mg → FnOk l.prog w (K w.params) mg base (CX w) k fa fd [x] (sp w))
    (hsp : ∀ (w : World) (H : Hp) (a : Addr) (ns : List Int), ns.length ≤ n → Only H → SqL (K w.params) H a (ns.map V.int) → sp w [.ref a] H (fun v _ => v = .bl true) fun _ _ _ => False)
    (hCX : ∀ (w : World) (H : Hp) (s : Shared) (e : Value) (s' : Shared), CX w [] H s (fun _ _ _ => False) e s' → False) :
    PySem.W.WalkO q loose XP YP l.row.toRowW d [] (fun f vs => PySem.call f vs) := by
  refine Att.attach_call hn hdf fun w s₀ s₁ mg mb fa o pm cd doc a vs ns G Y ho hd hcd hmg hobj hints hlen hg => ?_
  have KX := hY w _ Y
  obtain ⟨fd, hb, hF⟩ := F w mg fa _ KX G.T.g hmg
  exact law_call KX G.T.g G.T.b G.T.builtins G.T.nolimit hg hobj hints (Nat.le_trans hlen hn2) hr hF hb (fun H hO hS => hsp w H a ns hlen hO hS) fun H e s' => hCX w H s₁ e s'
end L2

/- THE LAST THEOREM (shape; LID, My.* are yours):
   My.Adr: a structure of the addresses that your layer names (classes, functions); My.Txt K t: a structure (Prop) of the equations over K;
   My.txt_mk : {K} {implicit addresses ..} (e1 : nsIn K mainGlobals "law" = some (some (.ref f))) (e2 : K.lookup f = some ⟨oc, od, .func (fnOf "law" "law" params body scope dV kV doc pm an cdv ct), sl⟩) (e3 : codeIn K cdv "law" = true) .. : ∃ t, My.Txt K t

(the tactic k_is has no namespace: write k_is) -/

/-! SHORT WORDS over the layer: a def of the text, its body, what a loop and a test want. -/
namespace L2
open PySem PySem.Spec PyProof.Rows

/-! ### the text by places -/
/-- the j-th statement of a class's body -/
def inClass (s : Stmt) (j : Nat) : Stmt := match s with
  | .ClassDef _ _ _ body _ _ _ _ _ _ _ => body.getD j (.Pass ⟨0, 0, 0, 0⟩)
  | _ => .Pass ⟨0, 0, 0, 0⟩
def defArgs (s : Stmt) : Arguments := match s with
  | .FunctionDef _ a _ _ _ _ _ _ _ _ => a
  | _ => { posonlyargs := [], args := [], vararg := none, kwonlyargs := [], kw_defaults := [], kwarg := none, defaults := [] }
def defBody (s : Stmt) : List Stmt := match s with
  | .FunctionDef _ _ b _ _ _ _ _ _ _ => b
  | _ => []
def defScope (s : Stmt) : Scope := match s with
  | .FunctionDef _ _ _ _ _ _ sc _ _ _ => sc
  | _ => { kind := .function, names := [], isGenerator := false, isCoroutine := false }

/-! ### no exception leaves a def -/
abbrev CX0 : CXT := fun _ _ _ _ _ _ => False
abbrev E0 : XK := fun _ _ _ => False
theorem pass0 {X : Cx} : Passes CX0 X E0 := fun _ _ _ _ _ _ _ h => h.elim

/-! ### a def (or method) of the text as it stands behind the top -/
structure Fun (K : PySem.W.Frag) (x qual : Str) (st : Stmt) (f : Addr) (fd : FuncData) : Prop where
  ex : ∃ (oc : Value) (od : Option Addr) (kV doc pm : Value) (an : Option Addr) (cdv ct : Value) (osl : Array (Option Value)),
    fd = PySem.W.fnOf x qual (defArgs st) (defBody st) (defScope st) .none kV doc pm an cdv ct ∧ K.lookup f = some ⟨oc, od, .func fd, osl⟩ ∧ PySem.W.codeIn K cdv qual = true
  kp : PySem.W.keepIn K (.ref f) = true
section
variable {P : Program} {w : World} {K : PySem.W.Frag} {mg : Str → Option Value} {base : Heap}
/-- THE RULE for a def: its body as a term of rules, and the reading of that term -/
theorem Fun.ok {x qual : Str} {st : Stmt} {f : Addr} {fd : FuncData} {N ps : List Str} {k : Nat} {sp : Sp} (F : Fun K x qual st f fd) (S : FnScope N ps (defScope st)) (len : ∀ vs H Q E, sp vs H Q E → vs.length = ps.length)
    (hbody : ∀ (cdv : Value) (A : Around) (outer : List Env) (s : Shared) (H : Hp) (vs : List V) (Q : VK) (E : XK), Room k (A.deeper (envOfC qual (defScope st) s.heap.objs.size f cdv)) → sp vs H Q E →
      ∃ t, PSs (cxOf CX0 P w K mg base N qual (defScope st) f cdv A outer s H E).nox (defBody st) t ∧ t { nx := fun _ H' => Q .non H', rt := Q } (start N vs) H) : FnOk P w K mg base CX0 (k + 1) f fd ps sp := by
  obtain ⟨oc, od, kV, doc, pm, an, cdv, ct, osl, rfl, lk, hcd⟩ := F.ex
  refine fn_of lk hcd S len fun A outer s H vs Q E hr hsp => ?_
  obtain ⟨t, h, q⟩ := hbody cdv A outer s H vs Q E hr hsp
  exact ⟨t, h.nox, q⟩
/-- how its arguments bind (no defaults): h is «fun _ _ _ _ _ _ us hl => match us, hl with | [_, _], _ => rfl», one _ a parameter -/
theorem Fun.binds {x qual : Str} {st : Stmt} {f : Addr} {fd : FuncData} {ps : List Str} (F : Fun K x qual st f fd)
    (h : ∀ (kV doc pm : Value) (an : Option Addr) (cdv ct : Value) (us : List Value), us.length = ps.length → bindArgs (PySem.W.fnOf x qual (defArgs st) (defBody st) (defScope st) .none kV doc pm an cdv ct) ⟨us, []⟩ = pure (ps.zip us)) : Binds K fd ps [] := by
  obtain ⟨oc, od, kV, doc, pm, an, cdv, ct, osl, rfl, lk, hcd⟩ := F.ex
  exact .all (h kV doc pm an cdv ct)
theorem fun_mk {x qual : Str} {st : Stmt} {f : Addr} {oc : Value} {od an : Option Addr} {osl : Array (Option Value)} {kV doc pm cdv ct : Value} (l : K.lookup f = some ⟨oc, od, .func (PySem.W.fnOf x qual (defArgs st) (defBody st) (defScope st) .none kV doc pm an cdv ct), osl⟩)
    (c : PySem.W.codeIn K cdv qual = true) (k : PySem.W.keepIn K (.ref f) = true) : Fun K x qual st f (PySem.W.fnOf x qual (defArgs st) (defBody st) (defScope st) .none kV doc pm an cdv ct) := ⟨⟨oc, od, kV, doc, pm, an, cdv, ct, osl, rfl, l, c⟩, k⟩
end
theorem hu_of {A : Around} {k : Nat} (hr : Room k A) : A.units + 1 < cLine := Nat.lt_of_le_of_lt (Nat.add_le_add_left (by decide : 1 ≤ 64) _) hr.units
/-! ### expressions in short: the name that stands in the i-th slot -/
section
variable {X : Cx}
theorem pv (i : Nat) {x : Str} {pos : Pos} (hN : X.N[i]? = some x := by rfl) (hv : Vis X.env.scope x := by first | exact Or.inl rfl | exact Or.inr (Or.inl rfl) | exact Or.inr (Or.inr rfl)) (hd : (x == ("__debug__" : Str)) = false := by decide)
    (hcd : (x == ("__classdict__" : Str)) = false := by decide) : PE X (.Name x pos) (tVar i) := pe_var hN hv hd hcd
end

/-! ### tests -/
theorem iteF {A B : Prop} (h : B) : if false = true then A else B := by
  rw [if_neg Bool.false_ne_true]
  exact h
theorem iteT {A B : Prop} (h : A) : if true = true then A else B := by
  rw [if_pos rfl]
  exact h
/-! ### heaps -/
/-- all that was tracked is as it was -/
def Same (H H' : Hp) : Prop := ∀ b o, H b = some o → H' b = some o
theorem Same.refl (H : Hp) : Same H H := fun _ _ h => h
theorem Same.trans {H H1 H2 : Hp} (a : Same H H1) (b : Same H1 H2) : Same H H2 := fun c o h => b c o (a c o h)
theorem Same.free {H H' : Hp} (e : Same H H') {l : Addr} (h : H' l = Option.none) : H l = Option.none := by
  cases q : H l with
  | none => rfl
  | some o =>
    rw [e l o q] at h
    cases h
theorem Same.seq {K : PySem.W.Frag} {H H' : Hp} {a : Addr} {xs : List V} (e : Same H H') (h : SqL K H a xs) : SqL K H' a xs := by
  rcases h with (h | ⟨o, h⟩) | h
  · exact .inl (.inl (e _ _ h))
  · exact .inl (.inr ⟨o, e _ _ h⟩)
  · exact .inr h

/-! ### a dict's pairs: keys that differ -/
section
variable {κ : Type} [DecidableEq κ]
end
/-- a new instance and its __init__ leave all that was tracked as it was -/
theorem Same.made {H H1 : Hp} {x dx C : Addr} (nx : H x = Option.none) (nd : H dx = Option.none) (k : ∀ b o, (upd (upd H dx (.own x)) x (.ins C dx [])) b = some o → b ≠ x → H1 b = some o) : Same H H1 := fun b o e =>
  k b o (by rw [upd_ne (ne_of_none e nx), upd_ne (ne_of_none e nd)]; exact e) (ne_of_none e nx)
end L2

set_option linter.all false
set_option Elab.async false
set_option maxRecDepth 100000
namespace FW
open PySem L2
/-! ## data -/
inductive D where
  | non | bl (b : Bool) | int (i : Int) | str (x : Str)
  | tup (xs : List D) | lst (xs : List D) | dic (kvs : List (Key × D)) | obj (C : Addr) (kvs : List (Key × D))
instance : Inhabited D := ⟨.non⟩

mutual
def DV (K : PySem.W.Frag) (H : Hp) : D → V → Prop
  | .non, v => v = .non
  | .bl b, v => v = .bl b
  | .int i, v => v = .int i
  | .str x, v => v = .str x
  | .tup ds, v => ∃ a vs, v = .ref a ∧ SqT K H a vs ∧ DVs K H ds vs
  | .lst ds, v => ∃ a vs, v = .ref a ∧ SqL K H a vs ∧ DVs K H ds vs
  | .dic kvs, v => ∃ a ws, v = .ref a ∧ Rd H a (.dK ws) ∧ DVk K H kvs ws
  | .obj C kvs, v => ∃ a dx fs, v = .ref a ∧ H a = some (.ins C dx fs) ∧ DVk K H kvs (fs.map fun p => (.inr p.1, p.2))
def DVs (K : PySem.W.Frag) (H : Hp) : List D → List V → Prop
  | [], vs => vs = []
  | d :: ds, vs => ∃ v r, vs = v :: r ∧ DV K H d v ∧ DVs K H ds r
def DVk (K : PySem.W.Frag) (H : Hp) : List (Key × D) → List (Key × V) → Prop
  | [], ws => ws = []
  | kd :: ds, ws => ∃ v r, ws = (kd.1, v) :: r ∧ DVp K H kd v ∧ DVk K H ds r
def DVp (K : PySem.W.Frag) (H : Hp) : Key × D → V → Prop
  | (_, d), v => DV K H d v
end

section
variable {K : PySem.W.Frag} {H H' : Hp}
theorem rd_mono (e : Same H H') {a : Addr} {u : HO} (h : Rd H a u) : Rd H' a u := by
  rcases h with h | ⟨o, h⟩
  · exact .inl (e _ _ h)
  · exact .inr ⟨o, e _ _ h⟩
theorem sqT_mono (e : Same H H') {a : Addr} {xs : List V} (h : SqT K H a xs) : SqT K H' a xs := by
  rcases h with h | h
  · exact .inl (rd_mono e h)
  · exact .inr h
theorem sqL_mono (e : Same H H') {a : Addr} {xs : List V} (h : SqL K H a xs) : SqL K H' a xs := e.seq h
mutual
theorem DV.mono (e : Same H H') : ∀ (d : D) (v : V), DV K H d v → DV K H' d v
  | .non, _, h => by simpa only [DV] using h
  | .bl _, _, h => by simpa only [DV] using h
  | .int _, _, h => by simpa only [DV] using h
  | .str _, _, h => by simpa only [DV] using h
  | .tup ds, v, h => by
    simp only [DV] at h ⊢
    obtain ⟨a, vs, e1, e2, e3⟩ := h
    exact ⟨a, vs, e1, sqT_mono e e2, DVs.mono e ds vs e3⟩
  | .lst ds, v, h => by
    simp only [DV] at h ⊢
    obtain ⟨a, vs, e1, e2, e3⟩ := h
    exact ⟨a, vs, e1, sqL_mono e e2, DVs.mono e ds vs e3⟩
  | .dic ds, v, h => by
    simp only [DV] at h ⊢
    obtain ⟨a, vs, e1, e2, e3⟩ := h
    exact ⟨a, vs, e1, rd_mono e e2, DVk.mono e ds vs e3⟩
  | .obj C ds, v, h => by
    simp only [DV] at h ⊢
    obtain ⟨a, dx, fs, e1, e2, e3⟩ := h
    exact ⟨a, dx, fs, e1, e _ _ e2, DVk.mono e ds _ e3⟩
theorem DVs.mono (e : Same H H') : ∀ (ds : List D) (vs : List V), DVs K H ds vs → DVs K H' ds vs
  | [], _, h => by simpa only [DVs] using h
  | d :: ds, _, h => by
    simp only [DVs] at h ⊢
    obtain ⟨v, r, e1, e2, e3⟩ := h
    exact ⟨v, r, e1, DV.mono e d v e2, DVs.mono e ds r e3⟩
theorem DVk.mono (e : Same H H') : ∀ (ds : List (Key × D)) (vs : List (Key × V)), DVk K H ds vs → DVk K H' ds vs
  | [], _, h => by simpa only [DVk] using h
  | kd :: ds, _, h => by
    simp only [DVk] at h ⊢
    obtain ⟨v, r, e1, e2, e3⟩ := h
    exact ⟨v, r, e1, DVp.mono e kd v e2, DVk.mono e ds r e3⟩
theorem DVp.mono (e : Same H H') : ∀ (kd : Key × D) (v : V), DVp K H kd v → DVp K H' kd v
  | (_, d), v, h => by
    simp only [DVp] at h ⊢
    exact DV.mono e d v h
end
theorem DVs.length : ∀ {ds : List D} {vs : List V}, DVs K H ds vs → vs.length = ds.length
  | [], _, h => by simp only [DVs] at h; simp [h]
  | d :: ds, _, h => by
    simp only [DVs] at h
    obtain ⟨v, r, rfl, _, e3⟩ := h
    simp [DVs.length e3]
theorem DVs.get : ∀ {ds : List D} {vs : List V} {i : Nat} {d : D}, DVs K H ds vs → ds[i]? = some d → ∃ v, vs[i]? = some v ∧ DV K H d v
  | [], _, _, _, _, e => by simp at e
  | d :: ds, _, 0, _, h, e => by
    simp only [DVs] at h
    obtain ⟨v, r, rfl, h1, _⟩ := h
    simp at e
    subst e
    exact ⟨v, by simp, h1⟩
  | d :: ds, _, i + 1, x, h, e => by
    simp only [DVs] at h
    obtain ⟨v, r, rfl, _, h2⟩ := h
    obtain ⟨w, h3, h4⟩ := DVs.get (i := i) (d := x) h2 (by simpa using e)
    exact ⟨w, by simpa using h3, h4⟩
theorem DVs.append : ∀ {ds es : List D} {vs ws : List V}, DVs K H ds vs → DVs K H es ws → DVs K H (ds ++ es) (vs ++ ws)
  | [], _, _, _, h, h' => by simp only [DVs] at h; subst h; exact h'
  | d :: ds, es, _, ws, h, h' => by
    simp only [DVs] at h
    obtain ⟨v, r, rfl, h1, h2⟩ := h
    simp only [List.cons_append, DVs]
    exact ⟨v, r ++ ws, rfl, h1, DVs.append h2 h'⟩
theorem DVs.one {d : D} {v : V} (h : DV K H d v) : DVs K H [d] [v] := by
  simp only [DVs]
  exact ⟨v, [], rfl, h, rfl⟩
theorem DVs.cons {d : D} {v : V} {ds : List D} {vs : List V} (h : DV K H d v) (t : DVs K H ds vs) : DVs K H (d :: ds) (v :: vs) := by
  simp only [DVs]
  exact ⟨v, vs, rfl, h, t⟩
end

/-! ## heaps without what is owned -/
def off (H : Hp) (O : List Addr) : Hp := fun b => if b ∈ O then none else H b
section
variable {H H' : Hp} {O O' : List Addr} {p b : Addr} {o : HO}
theorem off_some : off H O b = some o ↔ b ∉ O ∧ H b = some o := by
  unfold off
  by_cases h : b ∈ O
  · simp [h]
  · simp [h]
theorem off_same : Same (off H O) H := fun b o h => (off_some.mp h).2
theorem off_mono (e : Same H H') : Same (off H O) (off H' O) := fun b o h => off_some.mpr ⟨(off_some.mp h).1, e _ _ (off_some.mp h).2⟩
theorem off_sub (s : ∀ b ∈ O', b ∈ O) : Same (off H O) (off H O') := fun b o h => off_some.mpr ⟨fun z => (off_some.mp h).1 (s b z), (off_some.mp h).2⟩
theorem off_new (e : Same H H') (hp : H p = none) : Same (off H O) (off H' (p :: O)) := fun b o h => by
  obtain ⟨h1, h2⟩ := off_some.mp h
  refine off_some.mpr ⟨?_, e _ _ h2⟩
  intro z
  rcases List.mem_cons.mp z with z | z
  · subst z; rw [hp] at h2; cases h2
  · exact h1 z
theorem off_upd (hp : p ∈ O) : off (upd H p o) O = off H O := by
  funext b
  unfold off
  by_cases h : b ∈ O
  · simp [h]
  · have : b ≠ p := fun z => h (z ▸ hp)
    simp [h, upd_ne this]
theorem same_upd (hp : H p = none) : Same H (upd H p o) := fun b u h => by rw [upd_ne (ne_of_none h hp)]; exact h
end

/-! ## slots -/
inductive Sl where
  | un | pu (d : D) | mu (d : D) | bo (d : D)
abbrev En := List Sl
structure RV where
  d : D
  fr : Bool
def Sl.own : Sl → Bool
  | .mu _ => true
  | .bo _ => true
  | _ => false
/-- what stands at an owned address -/
def Cont (K : PySem.W.Frag) (Ho : Hp) (o : Option HO) : D → Prop
  | .lst ds => ∃ vs, o = some (.lst vs) ∧ DVs K Ho ds vs
  | .dic kvs => ∃ ws, o = some (.dK ws) ∧ DVk K Ho kvs ws
  | .obj C kvs => ∃ dx fs, o = some (.ins C dx fs) ∧ DVk K Ho kvs (fs.map fun p => (.inr p.1, p.2))
  | _ => False
theorem Cont.mono {K : PySem.W.Frag} {Ho Ho' : Hp} {o : Option HO} (e : Same Ho Ho') : ∀ {d : D}, Cont K Ho o d → Cont K Ho' o d
  | .lst ds, h => by obtain ⟨vs, h1, h2⟩ := h; exact ⟨vs, h1, h2.mono e⟩
  | .dic ds, h => by obtain ⟨vs, h1, h2⟩ := h; exact ⟨vs, h1, h2.mono e⟩
  | .obj C ds, h => by obtain ⟨dx, fs, h1, h2⟩ := h; exact ⟨dx, fs, h1, h2.mono e⟩
  | .non, h => h.elim
  | .bl _, h => h.elim
  | .int _, h => h.elim
  | .str _, h => h.elim
  | .tup _, h => h.elim
theorem Cont.some {K : PySem.W.Frag} {Ho : Hp} {o : Option HO} {d : D} (h : Cont K Ho o d) : o ≠ none := by
  cases d <;> first | exact h.elim | (obtain ⟨_, rfl, _⟩ := h; simp) | (obtain ⟨_, _, rfl, _⟩ := h; simp)
theorem Cont.dv {K : PySem.W.Frag} {Ho H : Hp} {p : Addr} (e : Same Ho H) : ∀ {d : D}, Cont K Ho (H p) d → DV K H d (.ref p)
  | .lst ds, h => by
    obtain ⟨vs, h1, h2⟩ := h
    simp only [DV]
    exact ⟨p, vs, rfl, .of h1, h2.mono e⟩
  | .dic ds, h => by
    obtain ⟨vs, h1, h2⟩ := h
    simp only [DV]
    exact ⟨p, vs, rfl, .inl h1, h2.mono e⟩
  | .obj C ds, h => by
    obtain ⟨dx, fs, h1, h2⟩ := h
    simp only [DV]
    exact ⟨p, dx, fs, rfl, h1, h2.mono e⟩
  | .non, h => h.elim
  | .bl _, h => h.elim
  | .int _, h => h.elim
  | .str _, h => h.elim
  | .tup _, h => h.elim

def SlOk (K : PySem.W.Frag) (M : Option Addr) (O : List Addr) (H : Hp) (x : Option (Option V)) : Sl → Prop
  | .un => True
  | .pu d => ∃ v, x = some (some v) ∧ DV K (off H O) d v
  | .mu d => ∃ p, x = some (some (.ref p)) ∧ p ∈ O ∧ Cont K (off H O) (H p) d
  | .bo d => ∃ p, x = some (some (.ref p)) ∧ M = some p ∧ p ∈ O ∧ Cont K (off H O) (H p) d
structure ER (K : PySem.W.Frag) (M : Option Addr) (O : List Addr) (env : En) (σ : St) (H : Hp) : Prop where
  sl : ∀ (i : Nat) (s : Sl), env[i]? = some s → SlOk K M O H σ[i]? s
  ow : ∀ (i j : Nat) (s t : Sl) (p : Addr), env[i]? = some s → env[j]? = some t → s.own = true → t.own = true → σ[i]? = some (some (.ref p)) → σ[j]? = some (some (.ref p)) → i = j
  dom : ∀ p ∈ O, H p ≠ none
section
variable {K : PySem.W.Frag} {M : Option Addr} {O : List Addr} {env : En} {σ : St} {H H' : Hp}
/-- the heap grows, and perhaps one more address is owned -/
theorem SlOk.grow {x : Option (Option V)} {O' : List Addr} (e : Same H H') (eo : Same (off H O) (off H' O')) (so : ∀ b ∈ O, b ∈ O') (dom : ∀ p ∈ O, H p ≠ none) : ∀ {s : Sl}, SlOk K M O H x s → SlOk K M O' H' x s
  | .un, _ => trivial
  | .pu d, h => by obtain ⟨v, h1, h2⟩ := h; exact ⟨v, h1, h2.mono eo⟩
  | .mu d, h => by
    obtain ⟨p, h1, h2, h3⟩ := h
    refine ⟨p, h1, so _ h2, ?_⟩
    cases q : H p with
    | none => exact absurd q (dom p h2)
    | some u => rw [e _ _ q, ← q]; exact h3.mono eo
  | .bo d, h => by
    obtain ⟨p, h1, h0, h2, h3⟩ := h
    refine ⟨p, h1, h0, so _ h2, ?_⟩
    cases q : H p with
    | none => exact absurd q (dom p h2)
    | some u => rw [e _ _ q, ← q]; exact h3.mono eo
theorem ER.mono (r : ER K M O env σ H) (e : Same H H') : ER K M O env σ H' :=
  ⟨fun i s h => (r.sl i s h).grow e (off_mono e) (fun _ z => z) r.dom, r.ow, fun p hp z => by
    cases q : H p with
    | none => exact r.dom p hp q
    | some u => rw [e _ _ q] at z; cases z⟩
theorem ER.take {p : Addr} (r : ER K M O env σ H) (e : Same H H') (hp : H p = none) (hp' : H' p ≠ none) : ER K M (p :: O) env σ H' :=
  ⟨fun i s h => (r.sl i s h).grow e (off_new e hp) (fun _ z => List.mem_cons_of_mem _ z) r.dom, r.ow, fun q hq z => by
    rcases List.mem_cons.mp hq with hq | hq
    · subst hq; exact hp' z
    · cases w : H q with
      | none => exact r.dom q hq w
      | some u => rw [e _ _ w] at z; cases z⟩
end
/-- what is known of an expression's value -/
def RVok (K : PySem.W.Frag) (O : List Addr) (H H' : Hp) (v : V) (r : RV) : Prop :=
  DV K (off H' O) r.d v ∧ (r.fr = true → ∃ p, v = .ref p ∧ H p = none ∧ Cont K (off H' (p :: O)) (H' p) r.d)
/-- what is known of a value that is looked at -/
def BR (K : PySem.W.Frag) (O : List Addr) (H : Hp) (d : D) (v : V) : Prop :=
  DV K (off H O) d v ∨ ∃ p, v = .ref p ∧ p ∈ O ∧ Cont K (off H O) (H p) d
section
variable {K : PySem.W.Frag} {O : List Addr} {H H' : Hp} {v : V}
theorem BR.mono {d : D} (h : BR K O H d v) (e : Same H H') : BR K O H' d v := by
  rcases h with h | ⟨p, h1, h0, h2⟩
  · exact .inl (h.mono (off_mono e))
  · refine .inr ⟨p, h1, h0, ?_⟩
    cases q : H p with
    | none => exact absurd q h2.some
    | some u => rw [e _ _ q, ← q]; exact h2.mono (off_mono e)
theorem BR.lst {ds : List D} (h : BR K O H (.lst ds) v) : ∃ p vs, v = .ref p ∧ SqL K H p vs ∧ DVs K (off H O) ds vs := by
  rcases h with h | ⟨p, h1, h0, vs, h2, h3⟩
  · simp only [DV] at h
    obtain ⟨a, vs, e1, e2, e3⟩ := h
    exact ⟨a, vs, e1, sqL_mono off_same e2, e3⟩
  · exact ⟨p, vs, h1, .of h2, h3⟩
theorem BR.tup {ds : List D} (h : BR K O H (.tup ds) v) : ∃ p vs, v = .ref p ∧ SqT K H p vs ∧ DVs K (off H O) ds vs := by
  rcases h with h | ⟨p, h1, h0, h2⟩
  · simp only [DV] at h
    obtain ⟨a, vs, e1, e2, e3⟩ := h
    exact ⟨a, vs, e1, sqT_mono off_same e2, e3⟩
  · exact h2.elim
theorem BR.dic {ds : List (Key × D)} (h : BR K O H (.dic ds) v) : ∃ p vs, v = .ref p ∧ Rd H p (.dK vs) ∧ DVk K (off H O) ds vs := by
  rcases h with h | ⟨p, h1, h0, vs, h2, h3⟩
  · simp only [DV] at h
    obtain ⟨a, vs, e1, e2, e3⟩ := h
    exact ⟨a, vs, e1, rd_mono off_same e2, e3⟩
  · exact ⟨p, vs, h1, .inl h2, h3⟩
theorem BR.obj {C : Addr} {ds : List (Key × D)} (h : BR K O H (.obj C ds) v) : ∃ p dx fs, v = .ref p ∧ H p = some (.ins C dx fs) ∧ DVk K (off H O) ds (fs.map fun q => (.inr q.1, q.2)) := by
  rcases h with h | ⟨p, h1, h0, dx, fs, h2, h3⟩
  · simp only [DV] at h
    obtain ⟨a, dx, fs, e1, e2, e3⟩ := h
    exact ⟨a, dx, fs, e1, off_same _ _ e2, e3⟩
  · exact ⟨p, dx, fs, h1, h2, h3⟩
theorem BR.int {i : Int} (h : BR K O H (.int i) v) : v = .int i := by
  rcases h with h | ⟨p, h1, h0, h2⟩
  · simpa only [DV] using h
  · exact h2.elim
theorem BR.bl {i : Bool} (h : BR K O H (.bl i) v) : v = .bl i := by
  rcases h with h | ⟨p, h1, h0, h2⟩
  · simpa only [DV] using h
  · exact h2.elim
theorem BR.str {i : Str} (h : BR K O H (.str i) v) : v = .str i := by
  rcases h with h | ⟨p, h1, h0, h2⟩
  · simpa only [DV] using h
  · exact h2.elim
theorem BR.non (h : BR K O H .non v) : v = .non := by
  rcases h with h | ⟨p, h1, h0, h2⟩
  · simpa only [DV] using h
  · exact h2.elim
theorem BR.dv {d : D} (h : BR K O H d v) : DV K H d v := by
  rcases h with h | ⟨p, h1, h0, h2⟩
  · exact h.mono off_same
  · subst h1; exact h2.dv off_same
end
def D.at : D → Bool
  | .non => true
  | .bl _ => true
  | .int _ => true
  | .str _ => true
  | _ => false
def D.v : D → V
  | .bl b => .bl b
  | .int i => .int i
  | .str x => .str x
  | _ => .non
theorem at_dv {K : PySem.W.Frag} {H : Hp} {d : D} (h : d.at = true) : DV K H d d.v := by
  cases d <;> first | (simp [D.at] at h; done) | (simp [DV, D.v])
theorem at_eq {K : PySem.W.Frag} {O : List Addr} {H : Hp} {d : D} {v : V} (h : d.at = true) (b : BR K O H d v) : v = d.v := by
  cases d <;> first | (simp [D.at] at h; done) | exact b.non | exact b.bl | exact b.int | exact b.str

/-! ## readings -/
abbrev EX := En → Option RV
abbrev BX := En → Option D
abbrev AX := En → Option (List D)
def tE (K : PySem.W.Frag) (x : EX) : TE := fun σ H Q => ∃ M O env r, ER K M O env σ H ∧ x env = some r ∧ ∀ v H', Same H H' → RVok K O H H' v r → Q v H'
def tB (K : PySem.W.Frag) (x : BX) : TE := fun σ H Q => ∃ M O env d, ER K M O env σ H ∧ x env = some d ∧ ∀ v H', Same H H' → BR K O H' d v → Q v H'
def tT (K : PySem.W.Frag) (x : BX) : TT := fun σ H Q => ∃ M O env b, ER K M O env σ H ∧ x env = some (.bl b) ∧ ∀ H', Same H H' → Q b H'
def tEs (K : PySem.W.Frag) (x : AX) : TA := fun σ H Q => ∃ M O env ds, ER K M O env σ H ∧ x env = some ds ∧ ∀ vs H', Same H H' → DVs K (off H' O) ds vs → Q vs H'
def tBs (K : PySem.W.Frag) (x : AX) : TA := fun σ H Q => ∃ M O env ds, ER K M O env σ H ∧ x env = some ds ∧ ∀ vs H', Same H H' → Paired (fun d v => BR K O H' d v) ds vs → Q vs H'
theorem _root_.L2.PE.imp {X : Cx} {e : Expr} {t t' : TE} (h : PE X e t) (f : ∀ σ H Q, t' σ H Q → t σ H Q) : PE X e t' := fun pins s σ H Q I q => h pins s σ H Q I (f _ _ _ q)
theorem _root_.L2.PT.imp {X : Cx} {e : Expr} {t t' : TT} (h : PT X e t) (f : ∀ σ H Q, t' σ H Q → t σ H Q) : PT X e t' := fun pins s σ H Q I q => h pins s σ H Q I (f _ _ _ q)
theorem _root_.L2.PW.imp {X : Cx} {e : Expr} {t t' : TT} (h : PW X e t) (f : ∀ σ H Q, t' σ H Q → t σ H Q) : PW X e t' := fun w pins s σ H Q I q => h w pins s σ H Q I (f _ _ _ q)
theorem _root_.L2.PA.imp {X : Cx} {e : List Expr} {t t' : TA} (h : PA X e t) (f : ∀ σ H Q, t' σ H Q → t σ H Q) : PA X e t' := fun pos pins s σ H Q I q => h pos pins s σ H Q I (f _ _ _ q)
theorem _root_.L2.PS.imp {X : Cx} {e : Stmt} {t t' : TS} (h : PS X e t) (f : ∀ D σ H, t' D σ H → t D σ H) : PS X e t' := fun pins s σ H D I q => h pins s σ H D I (f _ _ _ q)
theorem _root_.L2.PSs.imp {X : Cx} {e : List Stmt} {t t' : TS} (h : PSs X e t) (f : ∀ D σ H, t' D σ H → t D σ H) : PSs X e t' := fun pins s σ H D I q => h pins s σ H D I (f _ _ _ q)

/-! ## the words for expressions -/
def eVar (i : Nat) : EX := fun env => match env[i]? with
  | some (.pu d) => some ⟨d, false⟩
  | _ => none
def bVar (i : Nat) : BX := fun env => match env[i]? with
  | some (.pu d) => some d
  | some (.mu d) => some d
  | some (.bo d) => some d
  | _ => none
def cst (d : D) : BX := fun _ => some d
/-- a value that is looked at, as a value -/
def eB (x : BX) : EX := fun env => (x env).bind fun d => if d.at then some ⟨d, false⟩ else none
def bE (x : EX) : BX := fun env => (x env).map (·.d)
def b1 (f : D → Option D) (a : BX) : BX := fun env => (a env).bind f
def b2 (f : D → D → Option D) (a b : BX) : BX := fun env => (a env).bind fun x => (b env).bind fun y => f x y
def bAnd (a b : BX) : BX := fun env => (a env).bind fun x => match x with
  | .bl true => b env
  | .bl false => some (.bl false)
  | _ => none
def bOr (a b : BX) : BX := fun env => (a env).bind fun x => match x with
  | .bl false => b env
  | .bl true => some (.bl true)
  | _ => none
def bNot (a : BX) : BX := fun env => (a env).bind fun x => match x with
  | .bl b => some (.bl !b)
  | _ => none
def eIf (c : BX) (a b : EX) : EX := fun env => (c env).bind fun x => match x with
  | .bl true => a env
  | .bl false => b env
  | _ => none
def aNil : AX := fun _ => some []
def aCons (x : EX) (xs : AX) : AX := fun env => (x env).bind fun r => (xs env).bind fun ds => some (r.d :: ds)
def abCons (x : BX) (xs : AX) : AX := fun env => (x env).bind fun r => (xs env).bind fun ds => some (r :: ds)
def lim : Nat := 1000000
def eTup (xs : AX) : EX := fun env => (xs env).bind fun ds => if ds.length ≤ lim then some ⟨.tup ds, false⟩ else none
def eLst (xs : AX) : EX := fun env => (xs env).bind fun ds => if ds.length ≤ lim then some ⟨.lst ds, true⟩ else none
def eDict : EX := fun _ => some ⟨.dic [], true⟩
def eCall (F : List D → Option RV) (xs : AX) : EX := fun env => (xs env).bind F

section
variable {X : Cx}
theorem ce_var {i : Nat} {x : Str} {pos : Pos} (h : PE X (.Name x pos) (tVar i)) : PE X (.Name x pos) (tE X.K (eVar i)) := h.imp fun σ H Q ⟨M, O, env, r, er, e, k⟩ => by
  unfold eVar at e
  split at e
  · rename_i d hd
    cases e
    obtain ⟨v, h1, h2⟩ := er.sl i _ hd
    exact ⟨v, h1, k v H (Same.refl H) ⟨h2, fun z => by cases z⟩⟩
  · cases e
theorem cb_var {i : Nat} {x : Str} {pos : Pos} (h : PE X (.Name x pos) (tVar i)) : PE X (.Name x pos) (tB X.K (bVar i)) := h.imp fun σ H Q ⟨M, O, env, r, er, e, k⟩ => by
  unfold bVar at e
  split at e
  · rename_i d hd
    cases e
    obtain ⟨v, h1, h2⟩ := er.sl i _ hd
    exact ⟨v, h1, k v H (Same.refl H) (.inl h2)⟩
  · rename_i d hd
    cases e
    obtain ⟨p, h1, h0, h2⟩ := er.sl i _ hd
    exact ⟨_, h1, k _ H (Same.refl H) (.inr ⟨p, rfl, h0, h2⟩)⟩
  · rename_i d hd
    cases e
    obtain ⟨p, h1, h3, h0, h2⟩ := er.sl i _ hd
    exact ⟨_, h1, k _ H (Same.refl H) (.inr ⟨p, rfl, h0, h2⟩)⟩
  · cases e
theorem cb_at {e : Expr} {d : D} (ha : d.at = true) (h : PE X e (tC d.v)) : PE X e (tB X.K (cst d)) := h.imp fun σ H Q ⟨M, O, env, r, er, e, k⟩ => by
  cases e
  exact k _ H (Same.refl H) (.inl (at_dv ha))
theorem cb_int {i : Int} {j pos} : PE X (.Constant (.int i) j pos) (tB X.K (cst (.int i))) := cb_at rfl pe_int
theorem cb_bl {i : Bool} {j pos} : PE X (.Constant (.bool i) j pos) (tB X.K (cst (.bl i))) := cb_at rfl pe_bl
theorem cb_str {i : Str} {j pos} : PE X (.Constant (.str i) j pos) (tB X.K (cst (.str i))) := cb_at rfl pe_str
theorem ce_b {e : Expr} {x : BX} (h : PE X e (tB X.K x)) : PE X e (tE X.K (eB x)) := h.imp fun σ H Q ⟨M, O, env, r, er, e, k⟩ => by
  unfold eB at e
  cases q : x env with
  | none => rw [q] at e; cases e
  | some d =>
    rw [q] at e
    simp only [Option.bind_some] at e
    split at e
    · rename_i hd
      cases e
      refine ⟨M, O, env, d, er, q, fun v H' s b => k v H' s ⟨?_, fun z => by cases z⟩⟩
      rw [at_eq hd b]
      exact at_dv hd
    · cases e
theorem cb_e {e : Expr} {x : EX} (h : PE X e (tE X.K x)) : PE X e (tB X.K (bE x)) := h.imp fun σ H Q ⟨M, O, env, r, er, e, k⟩ => by
  unfold bE at e
  cases q : x env with
  | none => rw [q] at e; cases e
  | some d =>
    rw [q] at e
    cases e
    exact ⟨M, O, env, d, er, q, fun v H' s b => k v H' s (.inl b.1)⟩
/-- two values looked at, an atom comes -/
theorem two {x y : BX} {f : D → D → Option D} {rd : R2} {σ : St} {H : Hp} {Q : VK} (sem : ∀ O H d e r v w Q, f d e = some r → BR X.K O H d v → BR X.K O H e w → Q r.v H → rd v w H Q) (hat : ∀ d e r, f d e = some r → r.at = true)
    (h : tB X.K (b2 f x y) σ H Q) : tOp rd (tB X.K x) (tB X.K y) σ H Q := by
  obtain ⟨M, O, env, r, er, e, k⟩ := h
  unfold b2 at e
  cases q1 : x env with
  | none => rw [q1] at e; cases e
  | some d1 =>
    cases q2 : y env with
    | none => rw [q1, q2] at e; cases e
    | some d2 =>
      rw [q1, q2] at e
      simp only [Option.bind_some] at e
      refine ⟨M, O, env, d1, er, q1, fun v H1 s1 r1 => ⟨M, O, env, d2, er.mono s1, q2, fun w H2 s2 r2 => ?_⟩⟩
      exact sem O H2 d1 d2 r v w Q e (r1.mono s2) r2 (k _ H2 (s1.trans s2) (.inl (at_dv (hat _ _ _ e))))
theorem cb_bin {a b : Expr} {op : Operator} {pos : Pos} {x y : BX} {f : D → D → Option D} {rd : R2} (hop : OpR X (binaryOp op) rd) (sem : ∀ O H d e r v w Q, f d e = some r → BR X.K O H d v → BR X.K O H e w → Q r.v H → rd v w H Q) (hat : ∀ d e r, f d e = some r → r.at = true)
    (ha : PE X a (tB X.K x)) (hb : PE X b (tB X.K y)) : PE X (.BinOp a op b pos) (tB X.K (b2 f x y)) := (pe_op hop ha hb).imp fun _ _ _ h => two sem hat h
theorem cb_cmp {a b : Expr} {op : CmpOp} {pos : Pos} {x y : BX} {f : D → D → Option D} {rd : R2} (hop : OpR X (compareOp op) rd) (sem : ∀ O H d e r v w Q, f d e = some r → BR X.K O H d v → BR X.K O H e w → Q r.v H → rd v w H Q) (hat : ∀ d e r, f d e = some r → r.at = true)
    (hm : behindInMarks op b = false) (ha : PE X a (tB X.K x)) (hb : PE X b (tB X.K y)) : PE X (.Compare a [op] [b] pos) (tB X.K (b2 f x y)) := (pe_cmpR hop ha hb hm).imp fun _ _ _ h => two sem hat h
theorem ct_cmp {a b : Expr} {op : CmpOp} {pos : Pos} {x y : BX} {f : D → D → Option D} {rd : R2} (hop : OpR X (compareOp op) rd) (sem : ∀ O H d e r v w Q, f d e = some r → BR X.K O H d v → BR X.K O H e w → Q r.v H → rd v w H Q) (hat : ∀ d e r, f d e = some r → r.at = true)
    (hm : behindInMarks op b = false) (ha : PE X a (tB X.K x)) (hb : PE X b (tB X.K y)) : PT X (.Compare a [op] [b] pos) (tT X.K (b2 f x y)) := (pt_cmpR hop ha hb hm).imp fun σ H Q h => by
  refine two sem hat ?_
  obtain ⟨M, O, env, c, er, e, k⟩ := h
  exact ⟨M, O, env, .bl c, er, e, fun v H' s r => ⟨c, r.bl, k H' s⟩⟩
theorem ct_val {e : Expr} {x : BX} (h : PE X e (tB X.K x)) (he : ∀ whole, isTrue e X.env whole = (do let v ← whole; standAt e.pos; holding [v] (truthy v)) := by intro _; rfl) : PT X e (tT X.K x) := (pt_val h he).imp fun σ H Q h => by
  obtain ⟨M, O, env, c, er, e, k⟩ := h
  exact ⟨M, O, env, .bl c, er, e, fun v H' s r => ⟨c, r.bl, k H' s⟩⟩
theorem ct_not {a : Expr} {pos : Pos} {x : BX} (h : PT X a (tT X.K x)) : PT X (.UnaryOp .Not a pos) (tT X.K (bNot x)) := (pt_not h).imp fun σ H Q h => by
  obtain ⟨M, O, env, c, er, e, k⟩ := h
  unfold bNot at e
  cases q : x env with
  | none => rw [q] at e; cases e
  | some d =>
    rw [q] at e
    simp only [Option.bind_some] at e
    split at e
    · cases e
      exact ⟨M, O, env, _, er, q, fun H' s => k H' s⟩
    · cases e
theorem cw_or1 {a : Expr} {pos : Pos} {x : BX} (h : PT X a (tT X.K x)) : PW X (.BoolOp .Or [a] pos) (tT X.K x) := pw_or1 h
theorem cw_or {a b : Expr} {rest : List Expr} {pos : Pos} {x y : BX} (ha : PT X a (tT X.K x)) (hb : PW X (.BoolOp .Or (b :: rest) pos) (tT X.K y)) : PW X (.BoolOp .Or (a :: b :: rest) pos) (tT X.K (bOr x y)) := (pw_or ha hb).imp fun σ H Q h => by
  obtain ⟨M, O, env, c, er, e, k⟩ := h
  unfold bOr at e
  cases q : x env with
  | none => rw [q] at e; cases e
  | some d =>
    rw [q] at e
    simp only [Option.bind_some] at e
    split at e
    · exact ⟨M, O, env, false, er, q, fun H' s => iteF ⟨M, O, env, c, er.mono s, e, fun H2 s2 => k H2 (s.trans s2)⟩⟩
    · cases e
      exact ⟨M, O, env, true, er, q, fun H' s => iteT (k H' s)⟩
    · cases e
/-- .. as values -/
theorem cb_one {op} {a : Expr} {pos : Pos} {x : BX} (h : PE X a (tB X.K x)) : PE X (.BoolOp op [a] pos) (tB X.K x) := pe_one h
theorem cb_and {a b : Expr} {rest : List Expr} {pos : Pos} {x y : BX} (ha : PE X a (tB X.K x)) (hb : PE X (.BoolOp .And (b :: rest) pos) (tB X.K y)) : PE X (.BoolOp .And (a :: b :: rest) pos) (tB X.K (bAnd x y)) := (pe_and ha hb).imp fun σ H Q h => by
  obtain ⟨M, O, env, c, er, e, k⟩ := h
  unfold bAnd at e
  cases q : x env with
  | none => rw [q] at e; cases e
  | some d =>
    rw [q] at e
    simp only [Option.bind_some] at e
    split at e
    · exact ⟨M, O, env, _, er, q, fun v H' s r => ⟨true, r.bl, iteT ⟨M, O, env, c, er.mono s, e, fun v H2 s2 r => k v H2 (s.trans s2) r⟩⟩⟩
    · cases e
      exact ⟨M, O, env, _, er, q, fun v H' s r => ⟨false, r.bl, iteF (k _ H' s (.inl (by simp only [DV])))⟩⟩
    · cases e
theorem cb_or {a b : Expr} {rest : List Expr} {pos : Pos} {x y : BX} (ha : PE X a (tB X.K x)) (hb : PE X (.BoolOp .Or (b :: rest) pos) (tB X.K y)) : PE X (.BoolOp .Or (a :: b :: rest) pos) (tB X.K (bOr x y)) := (pe_or ha hb).imp fun σ H Q h => by
  obtain ⟨M, O, env, c, er, e, k⟩ := h
  unfold bOr at e
  cases q : x env with
  | none => rw [q] at e; cases e
  | some d =>
    rw [q] at e
    simp only [Option.bind_some] at e
    split at e
    · exact ⟨M, O, env, _, er, q, fun v H' s r => ⟨false, r.bl, iteF ⟨M, O, env, c, er.mono s, e, fun v H2 s2 r => k v H2 (s.trans s2) r⟩⟩⟩
    · cases e
      exact ⟨M, O, env, _, er, q, fun v H' s r => ⟨true, r.bl, iteT (k _ H' s (.inl (by simp only [DV])))⟩⟩
    · cases e
theorem cb_not {a : Expr} {pos : Pos} {x : BX} (ha : PE X a (tB X.K x)) : PE X (.UnaryOp .Not a pos) (tB X.K (bNot x)) := (pe_not ha).imp fun σ H Q h => by
  obtain ⟨M, O, env, c, er, e, k⟩ := h
  unfold bNot at e
  cases q : x env with
  | none => rw [q] at e; cases e
  | some d =>
    rw [q] at e
    simp only [Option.bind_some] at e
    split at e
    · cases e
      exact ⟨M, O, env, _, er, q, fun v H' s r => ⟨_, r.bl, k _ H' s (.inl (by simp only [DV]))⟩⟩
    · cases e
/-! argument lists -/
theorem ca_nil : PA X [] (tEs X.K aNil) := pa_nil.imp fun σ H Q ⟨M, O, env, ds, er, e, k⟩ => by
  cases e
  exact k [] H (Same.refl H) (by simp only [DVs])
theorem ca_cons {e : Expr} {es : List Expr} {x : EX} {xs : AX} (he : PE X e (tE X.K x)) (hs : PA X es (tEs X.K xs)) (h2 : starEach (e :: es) X.env = (false, eval e X.env) :: starEach es X.env := by rfl) : PA X (e :: es) (tEs X.K (aCons x xs)) := (pa_cons he hs h2).imp fun σ H Q ⟨M, O, env, ds, er, e, k⟩ => by
  unfold aCons at e
  cases q1 : x env with
  | none => rw [q1] at e; cases e
  | some d1 =>
    cases q2 : xs env with
    | none => rw [q1, q2] at e; cases e
    | some d2 =>
      rw [q1, q2] at e
      cases e
      exact ⟨M, O, env, d1, er, q1, fun v H1 s1 r1 => ⟨M, O, env, d2, er.mono s1, q2, fun vs H2 s2 r2 => k _ H2 (s1.trans s2) (DVs.cons (r1.1.mono (off_mono s2)) r2)⟩⟩
theorem cab_nil : PA X [] (tBs X.K aNil) := pa_nil.imp fun σ H Q ⟨M, O, env, ds, er, e, k⟩ => by
  cases e
  exact k [] H (Same.refl H) .nil
theorem cab_cons {e : Expr} {es : List Expr} {x : BX} {xs : AX} (he : PE X e (tB X.K x)) (hs : PA X es (tBs X.K xs)) (h2 : starEach (e :: es) X.env = (false, eval e X.env) :: starEach es X.env := by rfl) : PA X (e :: es) (tBs X.K (abCons x xs)) := (pa_cons he hs h2).imp fun σ H Q ⟨M, O, env, ds, er, e, k⟩ => by
  unfold abCons at e
  cases q1 : x env with
  | none => rw [q1] at e; cases e
  | some d1 =>
    cases q2 : xs env with
    | none => rw [q1, q2] at e; cases e
    | some d2 =>
      rw [q1, q2] at e
      cases e
      exact ⟨M, O, env, d1, er, q1, fun v H1 s1 r1 => ⟨M, O, env, d2, er.mono s1, q2, fun vs H2 s2 r2 => k _ H2 (s1.trans s2) (.cons (r1.mono s2) r2)⟩⟩
theorem lim_ok {n : Nat} (h : n ≤ lim) : n ≤ sizeLine := Nat.le_trans h (by decide)
theorem ce_tup {es : List Expr} {x1} {pos : Pos} {xs : AX} (h : PA X es (tEs X.K xs)) : PE X (.Tuple es x1 pos) (tE X.K (eTup xs)) := (pe_tup h).imp fun σ H Q ⟨M, O, env, r, er, e, k⟩ => by
  unfold eTup at e
  cases q : xs env with
  | none => rw [q] at e; cases e
  | some ds =>
    rw [q] at e
    simp only [Option.bind_some] at e
    split at e
    · rename_i hl
      cases e
      refine ⟨M, O, env, ds, er, q, fun vs H1 s1 dv => ⟨by rw [dv.length]; exact lim_ok hl, fun p hp => k _ _ (s1.trans (same_upd hp)) ⟨?_, fun z => by cases z⟩⟩⟩
      simp only [DV]
      have np : p ∉ O := fun z => (er.mono s1).dom p z hp
      exact ⟨p, vs, rfl, .of (off_some.mpr ⟨np, upd_same⟩), dv.mono (off_mono (same_upd hp))⟩
    · cases e
theorem ce_lst {es : List Expr} {pos : Pos} {xs : AX} (h : PA X es (tEs X.K xs)) : PE X (.List es pos) (tE X.K (eLst xs)) := (pe_lst h).imp fun σ H Q ⟨M, O, env, r, er, e, k⟩ => by
  unfold eLst at e
  cases q : xs env with
  | none => rw [q] at e; cases e
  | some ds =>
    rw [q] at e
    simp only [Option.bind_some] at e
    split at e
    · rename_i hl
      cases e
      refine ⟨M, O, env, ds, er, q, fun vs H1 s1 dv => ⟨by rw [dv.length]; exact lim_ok hl, fun p hp => k _ _ (s1.trans (same_upd hp)) ⟨?_, fun _ => ⟨p, rfl, s1.free hp, vs, upd_same, dv.mono (off_new (same_upd hp) hp)⟩⟩⟩⟩
      simp only [DV]
      have np : p ∉ O := fun z => (er.mono s1).dom p z hp
      exact ⟨p, vs, rfl, .of (off_some.mpr ⟨np, upd_same⟩), dv.mono (off_mono (same_upd hp))⟩
    · cases e
end
end FW

set_option linter.all false
set_option Elab.async false
set_option maxRecDepth 100000
namespace FW
open PySem L2
/-! ## whole numbers -/
def fI (C : Int → Int → Bool) (g : Int → Int → D) (d e : D) : Option D := match d, e with
  | .int i, .int j => if C i j then some (g i j) else none
  | _, _ => none
theorem fI_some {C : Int → Int → Bool} {g : Int → Int → D} {d e r : D} (h : fI C g d e = some r) : ∃ i j, d = .int i ∧ e = .int j ∧ C i j = true ∧ r = g i j := by
  unfold fI at h
  split at h
  · rename_i i j
    split at h
    · rename_i hc
      cases h
      exact ⟨i, j, rfl, rfl, hc, rfl⟩
    · cases h
  · cases h
def yes2 : Int → Int → Bool := fun _ _ => true
def big : Nat := 2 ^ 2000
def mulB (i j : Int) : Bool := decide (i.natAbs < 2 ^ 64) || decide (j.natAbs < 2 ^ 64) || (decide (i.natAbs < big) && decide (j.natAbs < big))
def divB (_ j : Int) : Bool := decide (j ≠ 0) && decide (j.natAbs < big)
def modB (_ j : Int) : Bool := decide (j ≠ 0)
def powB (i j : Int) : Bool := decide (0 ≤ j) && decide (j ≤ 1000000) && decide (i.natAbs < 2 ^ 64)
def fAdd (d e : D) : Option D := match d, e with
  | .int i, .int j => some (.int (i + j))
  | .str a, .str b => if a.length + b.length ≤ 1000000 then some (.str (a ++ b)) else none
  | _, _ => none
def fSub := fI yes2 fun i j => .int (i - j)
def fMul := fI mulB fun i j => .int (i * j)
def fDiv := fI divB fun i j => .int (i.fdiv j)
def fMod := fI modB fun i j => .int (i.fmod j)
def fPow := fI powB fun i j => .int (i ^ j.toNat)
def fLt := fI yes2 fun i j => .bl (decide (i < j))
def fLe := fI yes2 fun i j => .bl (decide (i ≤ j))
def fGt := fI yes2 fun i j => .bl (decide (j < i))
def fGe := fI yes2 fun i j => .bl (decide (j ≤ i))
theorem log2_lt_of {n k : Nat} (h : n < 2 ^ k) (hk : 0 < k) : n.log2 < k := by
  by_cases hn : n = 0
  · subst hn; simp [hk]
  · exact (Nat.log2_lt hn).mpr h
theorem bits_le {i : Int} {k : Nat} (h : i.natAbs < 2 ^ k) (hk : 0 < k) : Builtin.Int.intBits i ≤ k := by
  unfold Builtin.Int.intBits
  split
  · omega
  · have := log2_lt_of h hk; omega
theorem mulB_ok {i j : Int} (h : mulB i j = true) : IntMulOk i j := by
  unfold mulB at h
  rw [Bool.or_eq_true, Bool.or_eq_true, Bool.and_eq_true, decide_eq_true_eq, decide_eq_true_eq, decide_eq_true_eq, decide_eq_true_eq] at h
  rcases h with (h | h) | ⟨h1, h2⟩
  · exact .of_left (bits_le h (by decide))
  · exact .of_right (bits_le h (by decide))
  · exact .of_bits (Nat.le_trans (bits_le h1 (by decide)) (by decide)) (Nat.le_trans (bits_le h2 (by decide)) (by decide))
section
variable {X : Cx}
theorem op_mulW : OpR X (binaryOp .Mult) (rI (fun i j => mulB i j = true) fun i j => .int (i * j)) := by
  intro pins s σ H x y v u Q I rx ry h
  obtain ⟨i, j, rfl, rfl, c, q⟩ := h
  obtain ⟨t, rfl⟩ := rx
  obtain ⟨t', rfl⟩ := ry
  exact PyProof.Rows.mul_int ⟨.int _, H, I.tok _, ⟨_, rfl⟩, q⟩ (mulB_ok c)
theorem op_fdivW : OpR X (binaryOp .FloorDiv) (rI (fun i j => divB i j = true) fun i j => .int (i.fdiv j)) := by
  intro pins s σ H x y v u Q I rx ry h
  obtain ⟨i, j, rfl, rfl, c, q⟩ := h
  obtain ⟨t, rfl⟩ := rx
  obtain ⟨t', rfl⟩ := ry
  unfold divB at c
  rw [Bool.and_eq_true, decide_eq_true_eq, decide_eq_true_eq] at c
  exact PyProof.Rows.floordiv_int c.1 ⟨.int _, H, I.tok _, ⟨_, rfl⟩, q⟩ (Or.inl (PyProof.noPylong_of_log2 (Nat.lt_of_lt_of_le (log2_lt_of c.2 (by decide)) (by decide))))
theorem sem_rI0 {K : PySem.W.Frag} {C : Int → Int → Bool} {g : Int → Int → D} {gv : Int → Int → V} (hg : ∀ i j, (g i j).v = gv i j) : ∀ O H d e r v w Q, fI C g d e = some r → BR K O H d v → BR K O H e w → Q r.v H → rI0 gv v w H Q := by
  intro O H d e r v w Q h b1 b2 q
  obtain ⟨i, j, rfl, rfl, _, rfl⟩ := fI_some h
  rw [hg] at q
  exact ⟨i, j, b1.int, b2.int, q⟩
theorem sem_rI {K : PySem.W.Frag} {C : Int → Int → Bool} {Cp : Int → Int → Prop} {g : Int → Int → D} {gv : Int → Int → V} (hC : ∀ i j, C i j = true → Cp i j) (hg : ∀ i j, (g i j).v = gv i j) : ∀ O H d e r v w Q, fI C g d e = some r → BR K O H d v → BR K O H e w → Q r.v H → rI Cp gv v w H Q := by
  intro O H d e r v w Q h b1 b2 q
  obtain ⟨i, j, rfl, rfl, c, rfl⟩ := fI_some h
  rw [hg] at q
  exact ⟨i, j, b1.int, b2.int, hC _ _ c, q⟩
theorem at_fI {C : Int → Int → Bool} {g : Int → Int → D} (hg : ∀ i j, (g i j).at = true) : ∀ d e r, fI C g d e = some r → r.at = true := by
  intro d e r h
  obtain ⟨i, j, rfl, rfl, c, rfl⟩ := fI_some h
  exact hg i j
variable {a b : Expr} {pos : Pos} {x y : BX}
theorem op_or {f : Value → Value → Sem Value} {r1 r2 : R2} (h1 : OpR X f r1) (h2 : OpR X f r2) : OpR X f (fun x y H Q => r1 x y H Q ∨ r2 x y H Q) := by
  intro pins s σ H x y v u Q I rx ry h
  rcases h with h | h
  · exact h1 pins s σ H x y v u Q I rx ry h
  · exact h2 pins s σ H x y v u Q I rx ry h
theorem cb_add (ha : PE X a (tB X.K x)) (hb : PE X b (tB X.K y)) : PE X (.BinOp a .Add b pos) (tB X.K (b2 fAdd x y)) := cb_bin (op_or op_add op_add_str) (fun O H d e r v w Q h b1 b2 q => by
    unfold fAdd at h
    split at h
    · cases h
      exact .inl ⟨_, _, b1.int, b2.int, q⟩
    · split at h
      · rename_i hl
        cases h
        exact .inr ⟨_, _, b1.str, b2.str, Nat.le_trans hl (by decide), q⟩
      · cases h
    · cases h) (fun d e r h => by
    unfold fAdd at h
    split at h
    · cases h; rfl
    · split at h <;> cases h; rfl
    · cases h) ha hb
theorem cb_sub (ha : PE X a (tB X.K x)) (hb : PE X b (tB X.K y)) : PE X (.BinOp a .Sub b pos) (tB X.K (b2 fSub x y)) := cb_bin op_sub (sem_rI0 fun _ _ => rfl) (at_fI fun _ _ => rfl) ha hb
theorem cb_mul (ha : PE X a (tB X.K x)) (hb : PE X b (tB X.K y)) : PE X (.BinOp a .Mult b pos) (tB X.K (b2 fMul x y)) := cb_bin op_mulW (sem_rI (fun _ _ h => h) fun _ _ => rfl) (at_fI fun _ _ => rfl) ha hb
theorem cb_div (ha : PE X a (tB X.K x)) (hb : PE X b (tB X.K y)) : PE X (.BinOp a .FloorDiv b pos) (tB X.K (b2 fDiv x y)) := cb_bin op_fdivW (sem_rI (fun _ _ h => h) fun _ _ => rfl) (at_fI fun _ _ => rfl) ha hb
theorem cb_mod (ha : PE X a (tB X.K x)) (hb : PE X b (tB X.K y)) : PE X (.BinOp a .Mod b pos) (tB X.K (b2 fMod x y)) := cb_bin op_modN (sem_rI (fun _ j h => by simpa [modB] using h) fun _ _ => rfl) (at_fI fun _ _ => rfl) ha hb
theorem cb_pow (ha : PE X a (tB X.K x)) (hb : PE X b (tB X.K y)) : PE X (.BinOp a .Pow b pos) (tB X.K (b2 fPow x y)) := cb_bin op_pow (sem_rI (fun _ j h => by unfold powB at h; rw [Bool.and_eq_true, Bool.and_eq_true, decide_eq_true_eq, decide_eq_true_eq, decide_eq_true_eq] at h; exact ⟨h.1.1, h.1.2, h.2⟩) fun _ _ => rfl) (at_fI fun _ _ => rfl) ha hb
theorem cb_ge (ha : PE X a (tB X.K x)) (hb : PE X b (tB X.K y)) : PE X (.Compare a [.GtE] [b] pos) (tB X.K (b2 fGe x y)) := cb_cmp op_ge (sem_rI0 fun _ _ => rfl) (at_fI fun _ _ => rfl) (nomark _) ha hb
theorem ct_lt (ha : PE X a (tB X.K x)) (hb : PE X b (tB X.K y)) : PT X (.Compare a [.Lt] [b] pos) (tT X.K (b2 fLt x y)) := ct_cmp op_lt (sem_rI0 fun _ _ => rfl) (at_fI fun _ _ => rfl) (nomark _) ha hb
theorem ct_ge (ha : PE X a (tB X.K x)) (hb : PE X b (tB X.K y)) : PT X (.Compare a [.GtE] [b] pos) (tT X.K (b2 fGe x y)) := ct_cmp op_ge (sem_rI0 fun _ _ => rfl) (at_fI fun _ _ => rfl) (nomark _) ha hb
end
/-! ## == and != -/
mutual
def toP : D → PyData
  | .non => .none
  | .bl b => .bool b
  | .int i => .int i
  | .str x => .str x
  | .tup ds => .tuple (toPs ds)
  | .lst ds => .list (toPs ds)
  | .dic _ => .none
  | .obj _ _ => .none
def toPs : List D → List PyData
  | [] => []
  | d :: ds => toP d :: toPs ds
end
mutual
def noDic : D → Bool
  | .tup ds => noDics ds
  | .lst ds => noDics ds
  | .dic _ => false
  | .obj _ _ => false
  | _ => true
def noDics : List D → Bool
  | [] => true
  | d :: ds => noDic d && noDics ds
end
mutual
theorem DV.dp {K : PySem.W.Frag} {H : Hp} : ∀ (d : D) (v : V), noDic d = true → DV K H d v → Dp K H v (toP d)
  | .non, _, _, h => by simp only [DV] at h; subst h; exact .non
  | .bl b, _, _, h => by simp only [DV] at h; subst h; exact .bl b
  | .int i, _, _, h => by simp only [DV] at h; subst h; exact .int i
  | .str x, _, _, h => by simp only [DV] at h; subst h; exact .str x
  | .tup ds, _, n, h => by
    simp only [DV] at h
    simp only [noDic] at n
    obtain ⟨a, vs, rfl, h1, h2⟩ := h
    exact .tup h1 (DVs.dp ds vs n h2)
  | .lst ds, _, n, h => by
    simp only [DV] at h
    simp only [noDic] at n
    obtain ⟨a, vs, rfl, h1, h2⟩ := h
    exact .lst h1 (DVs.dp ds vs n h2)
  | .dic _, _, n, _ => by simp [noDic] at n
  | .obj _ _, _, n, _ => by simp [noDic] at n
theorem DVs.dp {K : PySem.W.Frag} {H : Hp} : ∀ (ds : List D) (vs : List V), noDics ds = true → DVs K H ds vs → DpAll K H vs (toPs ds)
  | [], _, _, h => by simp only [DVs] at h; subst h; exact .nil
  | d :: ds, _, n, h => by
    simp only [DVs] at h
    simp only [noDics, Bool.and_eq_true] at n
    obtain ⟨v, r, rfl, h1, h2⟩ := h
    exact .cons (DV.dp d v n.1 h1) (DVs.dp ds r n.2 h2)
end
def okP (d : D) : Bool := noDic d && SeqAt.shaped (toP d)
def fEq (d e : D) : Option D := if d.at && e.at && scal d.v e.v then some (.bl (decide (d.v = e.v))) else if okP d && okP e then some (.bl (PyData.eqv (toP d) (toP e))) else none
def fNe (d e : D) : Option D := if d.at && e.at && scal d.v e.v then some (.bl (!decide (d.v = e.v))) else if okP d && okP e then some (.bl (!PyData.eqv (toP d) (toP e))) else none
section
variable {X : Cx} {a b : Expr} {pos : Pos} {x y : BX}
theorem sem_eq {K : PySem.W.Frag} : ∀ O H d e r v w Q, fEq d e = some r → BR K O H d v → BR K O H e w → Q r.v H → rEq v w H Q ∨ rEqD K v w H Q := by
  intro O H d e r v w Q h b1 b2 q
  unfold fEq at h
  split at h
  · rename_i hc
    cases h
    simp only [Bool.and_eq_true] at hc
    rw [at_eq hc.1.1 b1, at_eq hc.1.2 b2]
    exact .inl ⟨hc.2, q⟩
  · split at h
    · rename_i hc
      cases h
      unfold okP at hc
      simp only [Bool.and_eq_true] at hc
      exact .inr ⟨toP d, toP e, b1.dv.dp d v hc.1.1, b2.dv.dp e w hc.2.1, hc.1.2, hc.2.2, q⟩
    · cases h
theorem sem_ne {K : PySem.W.Frag} : ∀ O H d e r v w Q, fNe d e = some r → BR K O H d v → BR K O H e w → Q r.v H → rNe v w H Q ∨ rNeD K v w H Q := by
  intro O H d e r v w Q h b1 b2 q
  unfold fNe at h
  split at h
  · rename_i hc
    cases h
    simp only [Bool.and_eq_true] at hc
    rw [at_eq hc.1.1 b1, at_eq hc.1.2 b2]
    exact .inl ⟨hc.2, q⟩
  · split at h
    · rename_i hc
      cases h
      unfold okP at hc
      simp only [Bool.and_eq_true] at hc
      exact .inr ⟨toP d, toP e, b1.dv.dp d v hc.1.1, b2.dv.dp e w hc.2.1, hc.1.2, hc.2.2, q⟩
    · cases h
theorem at_eq2 : ∀ d e r, fEq d e = some r → r.at = true := by
  intro d e r h
  unfold fEq at h
  split at h
  · cases h; rfl
  · split at h <;> cases h
    rfl
theorem at_ne2 : ∀ d e r, fNe d e = some r → r.at = true := by
  intro d e r h
  unfold fNe at h
  split at h
  · cases h; rfl
  · split at h <;> cases h
    rfl
theorem cb_eq (hu : X.A.units + 64 < cLine) (ha : PE X a (tB X.K x)) (hb : PE X b (tB X.K y)) : PE X (.Compare a [.Eq] [b] pos) (tB X.K (b2 fEq x y)) := cb_cmp (op_or op_eq (op_eqD hu)) sem_eq at_eq2 (nomark _) ha hb
theorem cb_ne (hu : X.A.units + 64 < cLine) (ha : PE X a (tB X.K x)) (hb : PE X b (tB X.K y)) : PE X (.Compare a [.NotEq] [b] pos) (tB X.K (b2 fNe x y)) := cb_cmp (op_or op_ne (op_neD hu)) sem_ne at_ne2 (nomark _) ha hb
theorem ct_eq (hu : X.A.units + 64 < cLine) (ha : PE X a (tB X.K x)) (hb : PE X b (tB X.K y)) : PT X (.Compare a [.Eq] [b] pos) (tT X.K (b2 fEq x y)) := ct_cmp (op_or op_eq (op_eqD hu)) sem_eq at_eq2 (nomark _) ha hb
theorem ct_ne (hu : X.A.units + 64 < cLine) (ha : PE X a (tB X.K x)) (hb : PE X b (tB X.K y)) : PT X (.Compare a [.NotEq] [b] pos) (tT X.K (b2 fNe x y)) := ct_cmp (op_or op_ne (op_neD hu)) sem_ne at_ne2 (nomark _) ha hb
end
/-! ## items -/
def valD (kvs : List (Key × D)) (k : Key) : Option D := (kvs.find? fun kv => decide (kv.1 = k)).map (·.2)
def keyD : D → Option Key
  | .int i => some (.inl i)
  | .str x => some (.inr x)
  | _ => none
theorem keyD_v {K : PySem.W.Frag} {O : List Addr} {H : Hp} {d : D} {k : Key} {v : V} (h : keyD d = some k) (b : BR K O H d v) : v = kV k := by
  cases d <;> simp only [keyD] at h <;> cases h
  · rw [b.int]; rfl
  · rw [b.str]; rfl
theorem DVk.val {K : PySem.W.Frag} {H : Hp} {k : Key} : ∀ {ds : List (Key × D)} {ws : List (Key × V)}, DVk K H ds ws →
    (∀ d, valD ds k = some d → ∃ v, valV ws k = some v ∧ DV K H d v) ∧ (valD ds k = none → valV ws k = none)
  | [], _, h => by
    simp only [DVk] at h
    subst h
    exact ⟨fun d e => (by cases e), fun _ => rfl⟩
  | (k', d') :: ds, _, h => by
    simp only [DVk, DVp] at h
    obtain ⟨v, r, rfl, h1, h2⟩ := h
    have ih := DVk.val (k := k) h2
    by_cases e : k' = k
    · subst e
      refine ⟨fun d q => ?_, fun q => ?_⟩
      · simp [valD, List.find?_cons] at q
        subst q
        exact ⟨v, valV_pos rfl, h1⟩
      · simp [valD, List.find?_cons] at q
    · have q1 : valD ((k', d') :: ds) k = valD ds k := by simp [valD, List.find?_cons, e]
      rw [q1, valV_neg (p := (k', v)) e]
      exact ih
def ixD (c i : D) : Option D := match c, i with
  | .lst ds, .int i => atI ds i
  | .tup ds, .int i => atI ds i
  | .dic kvs, k => (keyD k).bind (valD kvs)
  | _, _ => none
def eIx (a b : BX) : EX := fun env => (a env).bind fun c => (b env).bind fun i => (ixD c i).map fun d => ⟨d, false⟩
theorem DVs.atI {K : PySem.W.Frag} {H : Hp} {ds : List D} {vs : List V} {i : Int} {d : D} (h : DVs K H ds vs) (e : atI ds i = some d) : ∃ v, L2.atI vs i = some v ∧ DV K H d v := by
  unfold L2.atI at e ⊢
  rw [h.length]
  cases q : ixN ds.length i with
  | none => rw [q] at e; cases e
  | some j =>
    rw [q] at e
    simp only [Option.bind_some] at e ⊢
    exact h.get e
section
variable {X : Cx} {a b : Expr} {pos : Pos} {x y : BX}
theorem ce_ix (hu : X.A.units + 1 < cLine) (ha : PE X a (tB X.K x)) (hb : PE X b (tB X.K y)) (hs : PlainIx b) : PE X (.Subscript a b pos) (tE X.K (eIx x y)) := by
  intro pins s σ H Q I h
  obtain ⟨M, O, env, r, er, e, k⟩ := h
  unfold eIx at e
  cases q1 : x env with
  | none => rw [q1] at e; cases e
  | some c =>
    cases q2 : y env with
    | none => rw [q1, q2] at e; cases e
    | some i =>
      rw [q1, q2] at e
      simp only [Option.bind_some] at e
      cases q3 : ixD c i with
      | none => rw [q3] at e; cases e
      | some d =>
        rw [q3] at e
        cases e
        have fin : ∀ {H1 H2 : Hp} {v : V}, Same H H1 → Same H1 H2 → DV X.K (off H2 O) d v → Q v H2 := fun s1 s2 dv => k _ _ (s1.trans s2) ⟨dv, fun z => by cases z⟩
        unfold ixD at q3
        split at q3
        · rename_i ds i
          refine (pe_ix ix_list ha hb hs) pins s σ H Q I ⟨M, O, env, _, er, q1, fun v H1 s1 r1 => ⟨M, O, env, _, er.mono s1, q2, fun w H2 s2 r2 => ?_⟩⟩
          obtain ⟨p, vs, rfl, h1, h2⟩ := (r1.mono s2).lst
          obtain ⟨u, h3, h4⟩ := h2.atI q3
          exact ⟨p, vs, i, u, rfl, r2.int, h1, h3, fin s1 s2 h4⟩
        · rename_i ds i
          refine (pe_ix ix_tup ha hb hs) pins s σ H Q I ⟨M, O, env, _, er, q1, fun v H1 s1 r1 => ⟨M, O, env, _, er.mono s1, q2, fun w H2 s2 r2 => ?_⟩⟩
          obtain ⟨p, vs, rfl, h1, h2⟩ := (r1.mono s2).tup
          obtain ⟨u, h3, h4⟩ := h2.atI q3
          exact ⟨p, vs, i, u, rfl, r2.int, h1, h3, fin s1 s2 h4⟩
        · rename_i kvs
          cases q4 : keyD i with
          | none => rw [q4] at q3; cases q3
          | some ky =>
            rw [q4] at q3
            simp only [Option.bind_some] at q3
            refine (pe_dget hu ha hb (fun o i => hs o i)) pins s σ H Q I ⟨M, O, env, _, er, q1, fun v H1 s1 r1 => ⟨M, O, env, _, er.mono s1, q2, fun w H2 s2 r2 => ?_⟩⟩
            obtain ⟨p, ws, rfl, h1, h2⟩ := (r1.mono s2).dic
            obtain ⟨u, h3, h4⟩ := (DVk.val (k := ky) h2).1 d q3
            exact ⟨p, u, rfl, .inl ⟨ws, ky, h1, keyD_v q4 r2, h3.symm⟩, fin s1 s2 h4⟩
        · cases q3
end
/-! ## in -/
def inD (d c : D) : Option Bool := match c with
  | .dic kvs => (keyD d).map fun k => (valD kvs k).isSome
  | .lst ds => if d.at && ds.all D.at then some (inV d.v (ds.map D.v)) else none
  | .tup ds => if d.at && ds.all D.at then some (inV d.v (ds.map D.v)) else none
  | _ => none
def fIn (d c : D) : Option D := (inD d c).map .bl
def fNotIn (d c : D) : Option D := (inD d c).map fun b => .bl !b
section
variable {X : Cx} {a b : Expr} {pos : Pos} {x y : BX}
/-! ## is None -/
def isN : D → Bool
  | .non => true
  | _ => false
def fIsN (d : D) : Option D := some (.bl (isN d))
def fNotN (d : D) : Option D := some (.bl (!isN d))
theorem one {f : D → Option D} {σ : St} {H : Hp} {Q : VK} {rr : V → Hp → VK → Prop} (sem : ∀ O H d r v Q, f d = some r → BR X.K O H d v → Q r.v H → rr v H Q) (hat : ∀ d r, f d = some r → r.at = true)
    (h : tB X.K (b1 f x) σ H Q) : tB X.K x σ H fun v H1 => rr v H1 Q := by
  obtain ⟨M, O, env, r, er, e, k⟩ := h
  unfold b1 at e
  cases q1 : x env with
  | none => rw [q1] at e; cases e
  | some c =>
    rw [q1] at e
    simp only [Option.bind_some] at e
    exact ⟨M, O, env, c, er, q1, fun v H1 s1 r1 => sem O H1 c r v Q e r1 (k _ H1 s1 (.inl (at_dv (hat _ _ e))))⟩
def fNeg : D → Option D
  | .int i => some (.int (-i))
  | _ => none
theorem cb_neg (ha : PE X a (tB X.K x)) : PE X (.UnaryOp .USub a pos) (tB X.K (b1 fNeg x)) := (pe_un un_neg ha).imp fun σ H Q h =>
  one (rr := rU fun i => .int (-i)) (fun O H d r v Q e b q => by
    cases d <;> simp only [fNeg] at e <;> cases e
    exact ⟨_, b.int, q⟩) (fun d r e => by cases d <;> simp only [fNeg] at e <;> cases e; rfl) h
end
end FW

set_option linter.all false
set_option Elab.async false
set_option maxRecDepth 100000
namespace FW
open PySem L2
/-! ## built-in functions -/
def bn (f : List D → Option D) (xs : AX) : BX := fun env => (xs env).bind f
section
variable {X : Cx} {e : Expr} {es : List Expr} {nm : Str} {p pos : Pos} {xs : AX} {rr : List V → Hp → VK → Prop} {f : List D → Option D} {id T : String}
theorem bn_of {σ : St} {H : Hp} {Q : VK} (sem : ∀ O H ds r vs Q, f ds = some r → Paired (fun d v => BR X.K O H d v) ds vs → Q r.v H → rr vs H Q) (hat : ∀ ds r, f ds = some r → r.at = true) (h : tB X.K (bn f xs) σ H Q) : tCB rr (tBs X.K xs) σ H Q := by
  obtain ⟨M, O, env, r, er, e, k⟩ := h
  unfold bn at e
  cases q1 : xs env with
  | none => rw [q1] at e; cases e
  | some c =>
    rw [q1] at e
    simp only [Option.bind_some] at e
    exact ⟨M, O, env, c, er, q1, fun v H1 s1 r1 => sem O H1 c r v Q e r1 (k _ H1 s1 (.inl (at_dv (hat _ _ e))))⟩
theorem cb_callB (hr : CallR X (.builtin id) rr) (sem : ∀ O H ds r vs Q, f ds = some r → Paired (fun d v => BR X.K O H d v) ds vs → Q r.v H → rr vs H Q) (hat : ∀ ds r, f ds = some r → r.at = true)
    (hg : Gl X nm) (hm : X.mg nm = none) (hv : bootBuiltins nm = some (.builtin id)) (ha : PA X (e :: es) (tBs X.K xs)) (hn : nm ≠ "__name__" := by decide) (hdb : (nm == ("__debug__" : Str)) = false := by decide)
    (he : starEach (e :: es) X.env = (false, eval e X.env) :: starEach es X.env := by rfl) (hpl : (backTo pos (starEach es X.env)).any (·.1) = false := by rfl) : PE X (.Call (.Name nm p) (e :: es) [] pos) (tB X.K (bn f xs)) :=
  (pe_callB hr hg hm hv ha hn hdb he hpl).imp fun σ H Q h => bn_of sem hat h
theorem cb_callT (hr : CallR X (.type T) rr) (sem : ∀ O H ds r vs Q, f ds = some r → Paired (fun d v => BR X.K O H d v) ds vs → Q r.v H → rr vs H Q) (hat : ∀ ds r, f ds = some r → r.at = true)
    (hg : Gl X nm) (hm : X.mg nm = none) (hv : bootBuiltins nm = some (.type T)) (ha : PA X (e :: es) (tBs X.K xs)) (hn : nm ≠ "__name__" := by decide) (hdb : (nm == ("__debug__" : Str)) = false := by decide)
    (he : starEach (e :: es) X.env = (false, eval e X.env) :: starEach es X.env := by rfl) (hpl : (backTo pos (starEach es X.env)).any (·.1) = false := by rfl) : PE X (.Call (.Name nm p) (e :: es) [] pos) (tB X.K (bn f xs)) :=
  (pe_callTy hr hg hm hv ha hn hdb he hpl).imp fun σ H Q h => bn_of sem hat h
def rLen (K : PySem.W.Frag) : List V → Hp → VK → Prop := fun vs H Q => ∃ v n, vs = [v] ∧ (LenV K v H n ∨ ∃ a kvs, v = .ref a ∧ Rd H a (.dK kvs) ∧ n = kvs.length) ∧ Q (.int (n : Nat)) H
theorem call_lenA : CallR X (.builtin "len") (rLen X.K) := by
  intro pins s σ H xs us Q I r h
  obtain ⟨v, n, rfl, h, q⟩ := h
  rcases h with h | ⟨a, kvs, rfl, ha, rfl⟩
  · exact call_len pins s σ H [v] us Q I r ⟨v, n, rfl, h, q⟩
  · obtain ⟨u, rfl, ru⟩ := vals1 r
    cases ru
    exact d_len I ha fun t s' I' => ⟨.int kvs.length, H, I', ⟨t, rfl⟩, q⟩
def fLen : List D → Option D
  | [.lst ds] => some (.int ds.length)
  | [.tup ds] => some (.int ds.length)
  | [.dic ds] => some (.int ds.length)
  | [.str x] => if x.length ≤ lim then some (.int x.length) else none
  | _ => none
theorem DVk.length {K : PySem.W.Frag} {H : Hp} : ∀ {ds : List (Key × D)} {ws : List (Key × V)}, DVk K H ds ws → ws.length = ds.length
  | [], _, h => by simp only [DVk] at h; simp [h]
  | d :: ds, _, h => by
    simp only [DVk] at h
    obtain ⟨v, r, rfl, _, e3⟩ := h
    simp [DVk.length e3]
theorem sem_len {K : PySem.W.Frag} : ∀ O H ds r vs Q, fLen ds = some r → Paired (fun d v => BR K O H d v) ds vs → Q r.v H → rLen K vs H Q := by
  intro O H ds r vs Q e b q
  unfold fLen at e
  split at e
  · cases e
    cases b with
    | cons b t =>
      cases t
      obtain ⟨p, ws, rfl, h1, h2⟩ := b.lst
      exact ⟨_, _, rfl, .inl (.inl ⟨ws, h1, rfl⟩), by rw [h2.length]; exact q⟩
  · cases e
    cases b with
    | cons b t =>
      cases t
      obtain ⟨p, ws, rfl, h1, h2⟩ := b.tup
      exact ⟨_, _, rfl, .inl (.inr ⟨ws, h1, rfl⟩), by rw [h2.length]; exact q⟩
  · cases e
    cases b with
    | cons b t =>
      cases t
      obtain ⟨p, ws, rfl, h1, h2⟩ := b.dic
      exact ⟨_, _, rfl, .inr ⟨p, ws, rfl, h1, rfl⟩, by rw [h2.length]; exact q⟩
  · split at e
    · rename_i hl
      cases e
      cases b with
      | cons b t =>
        cases t
        rw [b.str]
        exact ⟨_, _, rfl, .inl ⟨lim_ok hl, rfl⟩, q⟩
    · cases e
  · cases e
theorem at_len : ∀ ds r, fLen ds = some r → r.at = true := by
  intro ds r e
  unfold fLen at e
  split at e <;> first | (cases e; rfl) | (split at e <;> cases e; rfl) | cases e
theorem boot_lenB : bootBuiltins "len" = some (.builtin "len") := by decide +kernel
theorem boot_strT : bootBuiltins "str" = some (.type "str") := by decide +kernel
theorem boot_isiB : bootBuiltins "isinstance" = some (.builtin "isinstance") := by decide +kernel
def fAbs : List D → Option D
  | [.int i] => some (.int (if i < 0 then -i else i))
  | _ => none
def fMax2 : List D → Option D
  | [.int i, .int j] => some (.int (if j > i then j else i))
  | _ => none
def fMin2 : List D → Option D
  | [.int i, .int j] => some (.int (if j < i then j else i))
  | _ => none
def fStr : List D → Option D
  | [.int i] => if i.natAbs < 2 ^ 1900 then some (.str (toString i)) else none
  | _ => none
theorem P1 {R : D → V → Prop} {d : D} {vs : List V} (h : Paired R [d] vs) : ∃ v, vs = [v] ∧ R d v := by
  cases h with
  | cons a t => cases t; exact ⟨_, rfl, a⟩
theorem P2 {R : D → V → Prop} {d e : D} {vs : List V} (h : Paired R [d, e] vs) : ∃ v w, vs = [v, w] ∧ R d v ∧ R e w := by
  cases h with
  | cons a t =>
    cases t with
    | cons b u => cases u; exact ⟨_, _, rfl, a, b⟩
theorem cb_len (hg : Gl X "len") (hm : X.mg "len" = none) (ha : PA X [e] (tBs X.K xs)) (he : starEach [e] X.env = (false, eval e X.env) :: starEach [] X.env := by rfl) : PE X (.Call (.Name "len" p) [e] [] pos) (tB X.K (bn fLen xs)) :=
  cb_callB call_lenA sem_len at_len hg hm boot_lenB ha (he := he)
theorem cb_strI (hg : Gl X "str") (hm : X.mg "str" = none) (ha : PA X [e] (tBs X.K xs)) (he : starEach [e] X.env = (false, eval e X.env) :: starEach [] X.env := by rfl) : PE X (.Call (.Name "str" p) [e] [] pos) (tB X.K (bn fStr xs)) :=
  cb_callT call_str_int (fun O H ds r vs Q e b q => by
    unfold fStr at e
    split at e
    · split at e
      · rename_i h
        cases e
        obtain ⟨v, rfl, b'⟩ := P1 b
        rw [b'.int]
        exact ⟨_, rfl, Nat.lt_of_lt_of_le (log2_lt_of h (by decide)) (by decide), q⟩
      · cases e
    · cases e) (fun ds r e => by unfold fStr at e; split at e <;> first | (split at e <;> cases e; rfl) | cases e) hg hm boot_strT ha (he := he)
/-! isinstance of a built-in class -/
def tyN : D → String
  | .non => "NoneType"
  | .bl _ => "bool"
  | .int _ => "int"
  | .str _ => "str"
  | .tup _ => "tuple"
  | .lst _ => "list"
  | .dic _ => "dict"
  | .obj _ _ => "object"
def kitT (T U : String) : Option Bool := if (Value.type T == Value.type U) = true then some true else if PySem.W.kitMeta U = true then (fastBuiltinMro T).map (·.contains (Value.type U)) else none
theorem kitT_eq {K : PySem.W.Frag} {T U : String} : PySem.W.kitOne K (.type T) (.type U) = kitT T U := rfl
def D.isO : D → Bool
  | .obj _ _ => true
  | _ => false
def fIs (U : String) (d : D) : Option D := if d.isO then none else (kitT (tyN d) U).map .bl
theorem isi_ok (U : String) : CallR X (.builtin "isinstance") (fun vs H Q => ∃ O d v c, vs = [v, .ty U] ∧ BR X.K O H d v ∧ d.isO = false ∧ kitT (tyN d) U = some c ∧ Q (.bl c) H) := by
  intro pins s σ H vs us Q I r h
  obtain ⟨O, d, v, c, rfl, b, ho, hc, q⟩ := h
  obtain ⟨u, w, rfl, ru, rw'⟩ := vals2 r
  obtain rfl : w = Value.type U := rw'
  have fin : ∀ tk, EP X pins σ Q (Value.bool c) { s with toks := tk } := fun tk => ⟨.bl c, H, I.tok _, rfl, q⟩
  cases d with
  | non => rw [b.non] at ru; cases ru; exact PySem.W.kia_one PySem.W.kitx_none I.kIn True.intro (kitT_eq.trans hc) (fun z => nomatch z) fin
  | bl y => rw [b.bl] at ru; cases ru; exact PySem.W.kia_one PySem.W.kitx_bool I.kIn True.intro (kitT_eq.trans hc) (fun z => nomatch z) fin
  | int y => rw [b.int] at ru; obtain ⟨t, rfl⟩ := ru; exact PySem.W.kia_one PySem.W.kitx_int I.kIn True.intro (kitT_eq.trans hc) (fun z => nomatch z) fin
  | str y => rw [b.str] at ru; obtain ⟨t, rfl⟩ := ru; exact PySem.W.kia_one PySem.W.kitx_str I.kIn True.intro (kitT_eq.trans hc) (fun z => nomatch z) fin
  | tup y =>
    obtain ⟨p, ws, rfl, h1, h2⟩ := b.tup
    cases ru
    obtain ⟨its, _, ⟨o, e1, e2, _⟩, _⟩ := I.tuple h1
    exact PySem.W.kia_one PySem.W.kitx_tuple I.kIn ⟨o, e1, e2⟩ (kitT_eq.trans hc) (fun z => nomatch z) fin
  | lst y =>
    obtain ⟨p, ws, rfl, h1, h2⟩ := b.lst
    cases ru
    obtain ⟨its, _, ⟨o, _, e1, e2, _⟩, _⟩ := I.list h1
    exact PySem.W.kia_one PySem.W.kitx_list I.kIn ⟨o, e1, e2⟩ (kitT_eq.trans hc) (fun z => nomatch z) fin
  | dic y =>
    obtain ⟨p, ws, rfl, h1, h2⟩ := b.dic
    cases ru
    obtain ⟨_, _, vs, _, dd⟩ := dk_rd I.hok h1
    obtain ⟨o, es, ep, e1, e2, _⟩ := dd
    exact PySem.W.kia_one PySem.W.kitx_dict I.kIn ⟨o, e1, e2.1⟩ (kitT_eq.trans hc) (fun z => nomatch z) fin
  | obj C y => cases ho
theorem cb_isi {x : BX} {a : Expr} {tn : Str} {U : String} {p2 : Pos} (hg : Gl X "isinstance") (hm : X.mg "isinstance" = none) (hgt : Gl X tn) (hmt : X.mg tn = none) (hvt : bootBuiltins tn = some (.type U)) (ha : PE X a (tB X.K x))
    (hn : tn ≠ "__name__" := by decide) (hdb : (tn == ("__debug__" : Str)) = false := by decide)
    (he : starEach [a, .Name tn p2] X.env = (false, eval a X.env) :: starEach [.Name tn p2] X.env := by rfl) (he2 : starEach [.Name tn p2] X.env = (false, eval (.Name tn p2) X.env) :: starEach [] X.env := by rfl) (hpl : (backTo pos (starEach [.Name tn p2] X.env)).any (·.1) = false := by rfl) :
    PE X (.Call (.Name "isinstance" p) [a, .Name tn p2] [] pos) (tB X.K (b1 (fIs U) x)) :=
  (pe_callB (isi_ok U) hg hm boot_isiB (pa_cons ha (pa_cons (pe_bltn (v := .ty U) hgt hmt hvt rfl hn hdb) pa_nil he2) he) (he := he) (hpl := hpl)).imp fun σ H Q h => by
    obtain ⟨M, O, env, r, er, e, k⟩ := h
    unfold b1 at e
    cases q1 : x env with
    | none => rw [q1] at e; cases e
    | some d =>
      rw [q1] at e
      simp only [Option.bind_some, fIs] at e
      split at e
      · cases e
      rename_i ho
      cases q2 : kitT (tyN d) U with
      | none => rw [q2] at e; cases e
      | some c =>
        rw [q2] at e
        cases e
        exact ⟨M, O, env, d, er, q1, fun v H1 s1 b => ⟨O, d, v, c, rfl, b, by simpa using ho, q2, k _ H1 s1 (.inl (by simp only [DV]))⟩⟩
end
/-! ## calls of one's own defs -/
def SpF (K : PySem.W.Frag) (n : Nat) (F : List D → Option RV) : Sp := fun vs H Q _ => vs.length = n ∧ ∃ O ds r, (∀ p ∈ O, H p ≠ none) ∧ DVs K (off H O) ds vs ∧ F ds = some r ∧ ∀ v H', Same H H' → RVok K O H H' v r → Q v H'
def eCallN (n : Nat) (F : List D → Option RV) (xs : AX) : EX := fun env => (xs env).bind fun ds => if ds.length = n then F ds else none
section
variable {X : Cx} {k : Nat} {f : Addr} {fd : FuncData} {ps : List Str} {F : List D → Option RV} {x : Str} {p pos : Pos} {e : Expr} {es : List Expr} {xs : AX} {n : Nat}
theorem ce_call (G : FnOk X.prog X.w X.K X.mg X.base CX0 k f fd ps (SpF X.K n F)) (hr : Room k X.A) (hg : Gl X x) (hm : X.mg x = some (.ref f)) (hk : PySem.W.keepIn X.K (.ref f) = true) (hb : Binds X.K fd ps [])
    (ha : PA X (e :: es) (tEs X.K xs)) (hdb : (x == ("__debug__" : Str)) = false := by decide) (he : starEach (e :: es) X.env = (false, eval e X.env) :: starEach es X.env := by rfl) (hpl : (backTo pos (starEach es X.env)).any (·.1) = false := by rfl) :
    PE X (.Call (.Name x p) (e :: es) [] pos) (tE X.K (eCallN n F xs)) := (pe_call G hr hg hm hk hb .nil pass0 ha hdb he hpl).imp fun σ H Q h => by
  obtain ⟨M, O, env, r, er, e, k⟩ := h
  unfold eCallN at e
  cases q1 : xs env with
  | none => rw [q1] at e; cases e
  | some ds =>
    rw [q1] at e
    simp only [Option.bind_some] at e
    split at e
    · rename_i hl
      refine ⟨M, O, env, ds, er, q1, fun vs H1 s1 dv => ⟨by rw [List.append_nil, dv.length]; exact hl, O, ds, r, (er.mono s1).dom, by rw [List.append_nil]; exact dv, e, fun v H' s2 ok => ?_⟩⟩
      exact k v H' (s1.trans s2) ⟨ok.1, fun z => let ⟨p, h1, h2, h3⟩ := ok.2 z; ⟨p, h1, s1.free h2, h3⟩⟩
    · cases e
end
end FW

set_option linter.all false
set_option Elab.async false
set_option maxRecDepth 100000
namespace FW
open PySem L2
/-! ## the state of a body -/
def Up (G : Hp → Prop) : Prop := ∀ H H', Same H H' → G H → G H'
structure SRo (K : PySem.W.Frag) (M : Option Addr) (B : List Addr) (H0 : Hp) (G : Hp → Prop) (O : List Addr) (env : En) (σ : St) (H : Hp) : Prop where
  er : ER K M O env σ H
  sub : ∀ p ∈ B, p ∈ O
  new : ∀ p ∈ O, p ∈ B ∨ H0 p = none
  old : ∀ p ∈ B, H0 p ≠ none
  same : ∀ b o, M ≠ some b → H0 b = some o → H b = some o
  gh : G (off H O)
  wr : ∀ (i : Nat) (d : D) (p : Addr), env[i]? = some (.mu d) → σ[i]? = some (some (.ref p)) → H0 p = none
  mb : ∀ p, M = some p → p ∈ B
  len : env.length = σ.length
def SR (K : PySem.W.Frag) (M : Option Addr) (B : List Addr) (H0 : Hp) (G : Hp → Prop) (env : En) (σ : St) (H : Hp) : Prop := ∃ O, SRo K M B H0 G O env σ H
section
variable {K : PySem.W.Frag} {M : Option Addr} {B O : List Addr} {H0 H H' : Hp} {G : Hp → Prop} {env : En} {σ : St}
theorem SRo.free (r : SRo K M B H0 G O env σ H) {p : Addr} (h : H p = none) : H0 p = none := by
  cases q : H0 p with
  | none => rfl
  | some o =>
    by_cases e : M = some p
    · exact absurd h (r.er.dom p (r.sub p (r.mb p e)))
    · rw [r.same p o e q] at h; cases h
theorem SRo.mono (r : SRo K M B H0 G O env σ H) (u : Up G) (e : Same H H') : SRo K M B H0 G O env σ H' :=
  ⟨r.er.mono e, r.sub, r.new, r.old, fun b o h1 h2 => e _ _ (r.same b o h1 h2), u _ _ (off_mono e) r.gh, r.wr, r.mb, r.len⟩
theorem SRo.weak {G' : Hp → Prop} (r : SRo K M B H0 G O env σ H) (h : ∀ H, G H → G' H) : SRo K M B H0 G' O env σ H :=
  ⟨r.er, r.sub, r.new, r.old, r.same, h _ r.gh, r.wr, r.mb, r.len⟩
theorem SR.weak {G' : Hp → Prop} (r : SR K M B H0 G env σ H) (h : ∀ H, G H → G' H) : SR K M B H0 G' env σ H := let ⟨O, r⟩ := r; ⟨O, r.weak h⟩
/-- a fresh thing is taken over -/
theorem SRo.own {p : Addr} (r : SRo K M B H0 G O env σ H) (u : Up G) (e : Same H H') (hp : H p = none) (hp' : H' p ≠ none) : SRo K M B H0 G (p :: O) env σ H' :=
  ⟨r.er.take e hp hp', fun q hq => List.mem_cons_of_mem _ (r.sub q hq), fun q hq => by
    rcases List.mem_cons.mp hq with z | z
    · subst z; exact .inr (r.free hp)
    · exact r.new q z, r.old, fun b o h1 h2 => e _ _ (r.same b o h1 h2), u _ _ (off_new e hp) r.gh, r.wr, r.mb, r.len⟩
/-- a name gets a pure value -/
theorem SRo.put {i : Nat} {d : D} {v : V} (r : SRo K M B H0 G O env σ H) (h : DV K (off H O) d v) : SRo K M B H0 G O (env.set i (.pu d)) (σ.set i (some v)) H := by
  refine ⟨⟨fun j s hj => ?_, fun j k s t p hj hk os ot pj pk => ?_, r.er.dom⟩, r.sub, r.new, r.old, r.same, r.gh, fun j d' p hj pj => ?_, r.mb, by simp [r.len]⟩
  · by_cases e : i = j
    · subst e
      have hl : i < env.length := by
        have := (List.getElem?_eq_some_iff.mp hj).1
        simpa using this
      rw [List.getElem?_set_self hl] at hj
      cases hj
      rw [List.getElem?_set_self (by rw [← r.len]; exact hl)]
      exact ⟨v, rfl, h⟩
    · rw [List.getElem?_set_ne e] at hj ⊢
      exact r.er.sl j s hj
  · by_cases e : i = j
    · subst e
      have hl : i < env.length := by
        have := (List.getElem?_eq_some_iff.mp hj).1
        simpa using this
      rw [List.getElem?_set_self hl] at hj
      cases hj
      cases os
    · by_cases e2 : i = k
      · subst e2
        have hl : i < env.length := by
          have := (List.getElem?_eq_some_iff.mp hk).1
          simpa using this
        rw [List.getElem?_set_self hl] at hk
        cases hk
        cases ot
      · rw [List.getElem?_set_ne e] at hj pj
        rw [List.getElem?_set_ne e2] at hk pk
        exact r.er.ow j k s t p hj hk os ot pj pk
  · by_cases e : i = j
    · subst e
      have hl : i < env.length := by
        have := (List.getElem?_eq_some_iff.mp hj).1
        simpa using this
      rw [List.getElem?_set_self hl] at hj
      cases hj
    · rw [List.getElem?_set_ne e] at hj pj
      exact r.wr j d' p hj pj
/-- a name gets a thing of its own -/
theorem SRo.putM {i : Nat} {d : D} {p : Addr} (r : SRo K M B H0 G O env σ H) (hp : p ∈ O) (h0 : H0 p = none) (hn : ∀ (j : Nat) (s : Sl), env[j]? = some s → s.own = true → σ[j]? ≠ some (some (.ref p))) (h : Cont K (off H O) (H p) d) :
    SRo K M B H0 G O (env.set i (.mu d)) (σ.set i (some (.ref p))) H := by
  have hl : ∀ {j : Nat} {s : Sl}, (env.set i (.mu d))[j]? = some s → i = j → i < env.length ∧ s = .mu d := fun {j s} hj e => by
    subst e
    have hl : i < env.length := by
      have := (List.getElem?_eq_some_iff.mp hj).1
      simpa using this
    rw [List.getElem?_set_self hl] at hj
    cases hj
    exact ⟨hl, rfl⟩
  have at_i : i < env.length → (σ.set i (some (V.ref p)))[i]? = some (some (.ref p)) := fun z => List.getElem?_set_self (by rw [← r.len]; exact z)
  refine ⟨⟨fun j s hj => ?_, fun j k s t q hj hk os ot pj pk => ?_, r.er.dom⟩, r.sub, r.new, r.old, r.same, r.gh, fun j d' q hj pj => ?_, r.mb, by simp [r.len]⟩
  · by_cases e : i = j
    · obtain ⟨h1, rfl⟩ := hl hj e
      subst e
      rw [at_i h1]
      exact ⟨p, rfl, hp, h⟩
    · rw [List.getElem?_set_ne e] at hj ⊢
      exact r.er.sl j s hj
  · by_cases e : i = j
    · obtain ⟨h1, rfl⟩ := hl hj e
      by_cases e2 : i = k
      · exact e.symm.trans e2
      · subst e
        rw [at_i h1] at pj
        cases pj
        rw [List.getElem?_set_ne e2] at hk pk
        exact absurd pk (hn k t hk ot)
    · by_cases e2 : i = k
      · obtain ⟨h1, rfl⟩ := hl hk e2
        subst e2
        rw [at_i h1] at pk
        cases pk
        rw [List.getElem?_set_ne e] at hj pj
        exact absurd pj (hn j s hj os)
      · rw [List.getElem?_set_ne e] at hj pj
        rw [List.getElem?_set_ne e2] at hk pk
        exact r.er.ow j k s t q hj hk os ot pj pk
  · by_cases e : i = j
    · obtain ⟨h1, _⟩ := hl hj e
      subst e
      rw [at_i h1] at pj
      cases pj
      exact h0
    · rw [List.getElem?_set_ne e] at hj pj
      exact r.wr j d' q hj pj
end
/-! ## statements -/
inductive Out where
  | nx (e : En) | rt (r : RV) (e : En) | bk (e : En) | ct (e : En)
abbrev SX := Nat → En → Option Out
def RtOk (K : PySem.W.Frag) (M : Option Addr) (B : List Addr) (H0 : Hp) (G : Hp → Prop) (e : En) (v : V) (H' : Hp) (r : RV) : Prop :=
  RVok K B H0 H' v r ∧ (∀ b o, M ≠ some b → H0 b = some o → H' b = some o) ∧ G (off H' B) ∧ ∀ p (i : Nat) d, M = some p → e[i]? = some (.bo d) → Cont K (off H' B) (H' p) d
def OutOk (K : PySem.W.Frag) (M : Option Addr) (B : List Addr) (H0 : Hp) (G : Hp → Prop) (D : Ends) : Out → Prop
  | .nx e => ∀ σ' H', SR K M B H0 G e σ' H' → D.nx σ' H'
  | .bk e => ∀ σ' H', SR K M B H0 G e σ' H' → D.bk σ' H'
  | .ct e => ∀ σ' H', SR K M B H0 G e σ' H' → D.ct σ' H'
  | .rt r e => ∀ v H', RtOk K M B H0 G e v H' r → D.rt v H'
def tS (K : PySem.W.Frag) (s : SX) : TS := fun D σ H => ∃ M B H0 G env n out, Up G ∧ SR K M B H0 G env σ H ∧ s n env = some out ∧ OutOk K M B H0 G D out
def sNext : SX := fun _ env => some (.nx env)
def sSeq (a b : SX) : SX := fun n env => (a n env).bind fun o => match o with
  | .nx e => b n e
  | o => some o
def sIf (c : BX) (a b : SX) : SX := fun n env => (c env).bind fun x => match x with
  | .bl true => a n env
  | .bl false => b n env
  | _ => none
def slotOf (r : RV) : Sl := if r.fr then .mu r.d else .pu r.d
def sSet (i : Nat) (x : EX) : SX := fun _ env => (x env).map fun r => .nx (env.set i (slotOf r))
def sExpr (x : EX) : SX := fun _ env => (x env).map fun _ => .nx env
def sRet (x : EX) : SX := fun _ env => (x env).map fun r => .rt r env
def sRetV (i : Nat) : SX := fun _ env => match env[i]? with
  | some (.mu d) => some (.rt ⟨d, true⟩ env)
  | some (.pu d) => some (.rt ⟨d, false⟩ env)
  | _ => none
def sRetN : SX := fun _ env => some (.rt ⟨.non, false⟩ env)
def sBreak : SX := fun _ env => some (.bk env)
def sCont : SX := fun _ env => some (.ct env)
/-- what is owned is given up (nothing is run) -/
def frz (i : Nat) (env : En) : En := match env[i]? with
  | some (.mu d) => env.set i (.pu d)
  | _ => env
def sFrz (i : Nat) (s : SX) : SX := fun n env => s n (frz i env)
def setMu (i : Nat) (d : D) (env : En) : En := match env[i]? with
  | some (.bo _) => env.set i (.bo d)
  | _ => env.set i (.mu d)
def ownD (i : Nat) (env : En) : Option D := match env[i]? with
  | some (.mu d) => some d
  | some (.bo d) => some d
  | _ => none
def sAppend (i : Nat) (x : EX) : SX := fun _ env => (ownD i env).bind fun c => match c with
  | .lst ds => (x env).bind fun r => if ds.length < lim then some (.nx (setMu i (.lst (ds ++ [r.d])) env)) else none
  | _ => none
def putD (kvs : List (Key × D)) (k : Key) (v : D) : List (Key × D) :=
  if (kvs.any fun kv => decide (kv.1 = k)) = true then kvs.map (fun kv => if kv.1 = k then (kv.1, v) else kv) else kvs ++ [(k, v)]
def sDput (i : Nat) (k : BX) (x : EX) : SX := fun _ env => (ownD i env).bind fun c => match c with
  | .dic kvs => (x env).bind fun r => (k env).bind fun kd => (keyD kd).bind fun ky => if kvs.length < lim then some (.nx (setMu i (.dic (putD kvs ky r.d)) env)) else none
  | _ => none

section
variable {X : Cx}
theorem RtOk.of {K : PySem.W.Frag} {M : Option Addr} {B O : List Addr} {H0 H H' : Hp} {G : Hp → Prop} {env : En} {σ : St} {v : V} {r : RV} (R : SRo K M B H0 G O env σ H) (u : Up G) (e : Same H H') (ok : RVok K O H H' v r) : RtOk K M B H0 G env v H' r := by
  have sB : ∀ b ∈ B, b ∈ O := R.sub
  refine ⟨⟨ok.1.mono (off_sub sB), fun z => ?_⟩, fun b o h1 h2 => e _ _ (R.same b o h1 h2), u _ _ ((off_mono e).trans (off_sub sB)) R.gh, fun p i d hM hi => ?_⟩
  · obtain ⟨p, h1, h2, h3⟩ := ok.2 z
    exact ⟨p, h1, R.free h2, h3.mono (off_sub fun b hb => by
      rcases List.mem_cons.mp hb with w | w
      · rw [w]; exact List.mem_cons_self
      · exact List.mem_cons_of_mem _ (sB b w))⟩
  · obtain ⟨q, _, h2, h3, h4⟩ := (R.mono u e).er.sl i _ hi
    rw [hM] at h2
    cases h2
    exact h4.mono (off_sub sB)
theorem cs_ret {e : Expr} {pos : Pos} {x : EX} (h : PE X e (tE X.K x)) : PS X (.Return (some e) pos) (tS X.K (sRet x)) := (ps_ret h).imp fun D σ H ⟨M, B, H0, G, env, n, out, u, ⟨O, R⟩, e, k⟩ => by
  unfold sRet at e
  cases q : x env with
  | none => rw [q] at e; cases e
  | some r =>
    rw [q] at e
    cases e
    exact ⟨M, O, env, r, R.er, q, fun v H' s ok => k v H' (RtOk.of R u s ok)⟩
theorem cs_retV {x : Str} {i : Nat} {p pos : Pos} (h : PE X (.Name x p) (tVar i)) : PS X (.Return (some (.Name x p)) pos) (tS X.K (sRetV i)) := (ps_ret h).imp fun D σ H ⟨M, B, H0, G, env, n, out, u, ⟨O, R⟩, e, k⟩ => by
  unfold sRetV at e
  split at e
  · rename_i d hd
    cases e
    obtain ⟨p, h1, h2, h3⟩ := R.er.sl i _ hd
    have h0 := R.wr i d p hd h1
    refine ⟨_, h1, k _ _ ?_⟩
    have sub : ∀ b ∈ p :: B, b ∈ O := fun b hb => by
      rcases List.mem_cons.mp hb with w | w
      · rw [w]; exact h2
      · exact R.sub b w
    refine ⟨⟨?_, fun _ => ⟨p, rfl, h0, h3.mono (off_sub sub)⟩⟩, R.same, u _ _ (off_sub R.sub) R.gh, fun q j d' hM hj => ?_⟩
    · have np : p ∉ B := fun z => R.old p z h0
      have e1 : off H B p = H p := by unfold off; rw [if_neg np]
      have h4 : Cont X.K (off H O) (off H B p) d := by rw [e1]; exact h3
      exact h4.dv (off_sub R.sub)
    · obtain ⟨q', _, g2, g3, g4⟩ := R.er.sl j _ hj
      rw [hM] at g2
      cases g2
      exact g4.mono (off_sub R.sub)
  · rename_i d hd
    cases e
    obtain ⟨v, h1, h2⟩ := R.er.sl i _ hd
    exact ⟨v, h1, k _ _ (RtOk.of R u (Same.refl H) ⟨h2, fun z => by cases z⟩)⟩
  · cases e
theorem cs_pass {pos : Pos} : PS X (.Pass pos) (tS X.K sNext) := ps_pass.imp fun D σ H ⟨M, B, H0, G, env, n, out, u, R, e, k⟩ => by
  cases e
  exact k _ _ R
theorem css_nil : PSs X [] (tS X.K sNext) := pss_nil.imp fun D σ H ⟨M, B, H0, G, env, n, out, u, R, e, k⟩ => by
  cases e
  exact k _ _ R
theorem css_one {st : Stmt} {a : SX} (h : PS X st (tS X.K a)) : PSs X [st] (tS X.K a) := pss_one h
theorem css_cons {st : Stmt} {rest : List Stmt} {a b : SX} (h1 : PS X st (tS X.K a)) (h2 : PSs X rest (tS X.K b)) : PSs X (st :: rest) (tS X.K (sSeq a b)) := (pss_cons h1 h2).imp fun D σ H ⟨M, B, H0, G, env, n, out, u, R, e, k⟩ => by
  unfold sSeq at e
  cases q : a n env with
  | none => rw [q] at e; cases e
  | some o =>
    rw [q] at e
    simp only [Option.bind_some] at e
    refine ⟨M, B, H0, G, env, n, o, u, R, q, ?_⟩
    cases o with
    | nx e1 => exact fun σ' H' R' => ⟨M, B, H0, G, e1, n, out, u, R', e, k⟩
    | rt r e1 => cases e; exact k
    | bk e1 => cases e; exact k
    | ct e1 => cases e; exact k
theorem cs_if {c : Expr} {a b : List Stmt} {pos : Pos} {xc : BX} {sa sb : SX} (hc : PT X c (tT X.K xc)) (ha : PSs X a (tS X.K sa)) (hb : PSs X b (tS X.K sb)) : PS X (.If c a b pos) (tS X.K (sIf xc sa sb)) := (ps_if hc ha hb).imp fun D σ H ⟨M, B, H0, G, env, n, out, u, ⟨O, R⟩, e, k⟩ => by
  unfold sIf at e
  cases q : xc env with
  | none => rw [q] at e; cases e
  | some d =>
    rw [q] at e
    simp only [Option.bind_some] at e
    split at e
    · exact ⟨M, O, env, true, R.er, q, fun H' s => iteT ⟨M, B, H0, G, env, n, out, u, ⟨O, R.mono u s⟩, e, k⟩⟩
    · exact ⟨M, O, env, false, R.er, q, fun H' s => iteF ⟨M, B, H0, G, env, n, out, u, ⟨O, R.mono u s⟩, e, k⟩⟩
    · cases e
theorem SRo.store {K : PySem.W.Frag} {M : Option Addr} {B O : List Addr} {H0 H H' : Hp} {G : Hp → Prop} {env : En} {σ : St} {v : V} {r : RV} (i : Nat) (R : SRo K M B H0 G O env σ H) (u : Up G) (s : Same H H') (ok : RVok K O H H' v r) :
    SR K M B H0 G (env.set i (slotOf r)) (σ.set i (some v)) H' := by
  unfold slotOf
  by_cases hf : r.fr = true
  · rw [if_pos hf]
    obtain ⟨p, rfl, hp, hc⟩ := ok.2 hf
    have R' := R.own u s hp hc.some
    refine ⟨p :: O, R'.putM List.mem_cons_self (R.free hp) (fun j t hj ht hz => ?_) hc⟩
    have hd := R.er.sl j t hj
    cases t with
    | un => cases ht
    | pu d => cases ht
    | mu d =>
      obtain ⟨q, h1, h2, h3⟩ := hd
      rw [hz] at h1
      cases h1
      exact h3.some hp
    | bo d =>
      obtain ⟨q, h1, _, h2, h3⟩ := hd
      rw [hz] at h1
      cases h1
      exact h3.some hp
  · rw [if_neg hf]
    exact ⟨O, (R.mono u s).put ok.1⟩
theorem cs_set {i : Nat} {x : Str} {e : Expr} {pos pos' : Pos} {xe : EX} (hN : X.N.Nodup) (hi : X.N[i]? = some x) (hx : Loc X.env.scope x) (he : PE X e (tE X.K xe)) (hs : swapsWith e (some (.Name x pos')) pos.line X.env = pure false := by rfl)
    (hf : X.fn x = true ∨ X.env.scope.names.lookup x = some .local := by first | exact .inl rfl | exact .inr rfl | assumption) : PS X (.Assign [.Name x pos'] e pos) (tS X.K (sSet i xe)) := (ps_set hN hi hx he hs hf).imp fun D σ H ⟨M, B, H0, G, env, n, out, u, ⟨O, R⟩, e, k⟩ => by
  unfold sSet at e
  cases q : xe env with
  | none => rw [q] at e; cases e
  | some r =>
    rw [q] at e
    cases e
    exact ⟨M, O, env, r, R.er, q, fun v H' s ok => k _ H' (R.store i u s ok)⟩
/-- giving up what is owned -/
theorem SRo.frz {K : PySem.W.Frag} {M : Option Addr} {B O : List Addr} {H0 H : Hp} {G : Hp → Prop} {env : En} {σ : St} (i : Nat) (R : SRo K M B H0 G O env σ H) (u : Up G) : SR K M B H0 G (frz i env) σ H := by
  unfold FW.frz
  split
  · rename_i d hd
    obtain ⟨p, h1, h2, h3⟩ := R.er.sl i _ hd
    have h0 := R.wr i d p hd h1
    have hl : i < env.length := (List.getElem?_eq_some_iff.mp hd).1
    let O' := O.filter fun b => decide (b ≠ p)
    have memO : ∀ b, b ∈ O' ↔ b ∈ O ∧ b ≠ p := fun b => by simp [O']
    have s1 : Same (off H O) (off H O') := off_sub fun b hb => ((memO b).mp hb).1
    have np : p ∉ O' := fun z => ((memO p).mp z).2 rfl
    have pc : DV K (off H O') d (.ref p) := by
      have e1 : off H O' p = H p := by unfold off; rw [if_neg np]
      have h4 : Cont K (off H O) (off H O' p) d := by rw [e1]; exact h3
      exact h4.dv s1
    refine ⟨O', ⟨⟨fun j s hj => ?_, fun j k s t q hj hk os ot pj pk => ?_, fun q hq => R.er.dom q ((memO q).mp hq).1⟩, fun q hq => (memO q).mpr ⟨R.sub q hq, fun z => R.old q hq (z ▸ h0)⟩, fun q hq => R.new q ((memO q).mp hq).1, R.old, R.same, u _ _ s1 R.gh, fun j d' q hj pj => ?_, R.mb, by simp [R.len]⟩⟩
    · by_cases e : i = j
      · subst e
        rw [List.getElem?_set_self hl] at hj
        cases hj
        exact ⟨_, h1, pc⟩
      · rw [List.getElem?_set_ne e] at hj
        have ho := R.er.sl j s hj
        cases s with
        | un => trivial
        | pu d' => obtain ⟨v, g1, g2⟩ := ho; exact ⟨v, g1, g2.mono s1⟩
        | mu d' =>
          obtain ⟨q, g1, g2, g3⟩ := ho
          have nq : q ≠ p := fun z => by
            subst z
            exact e (R.er.ow i j _ _ q hd hj rfl rfl h1 g1)
          exact ⟨q, g1, (memO q).mpr ⟨g2, nq⟩, g3.mono s1⟩
        | bo d' =>
          obtain ⟨q, g1, g0, g2, g3⟩ := ho
          have nq : q ≠ p := fun z => by
            subst z
            exact e (R.er.ow i j _ _ q hd hj rfl rfl h1 g1)
          exact ⟨q, g1, g0, (memO q).mpr ⟨g2, nq⟩, g3.mono s1⟩
    · by_cases e : i = j
      · subst e
        rw [List.getElem?_set_self hl] at hj
        cases hj
        cases os
      · by_cases e2 : i = k
        · subst e2
          rw [List.getElem?_set_self hl] at hk
          cases hk
          cases ot
        · rw [List.getElem?_set_ne e] at hj
          rw [List.getElem?_set_ne e2] at hk
          exact R.er.ow j k s t q hj hk os ot pj pk
    · by_cases e : i = j
      · subst e
        rw [List.getElem?_set_self hl] at hj
        cases hj
      · rw [List.getElem?_set_ne e] at hj
        exact R.wr j d' q hj pj
  · exact ⟨O, R⟩
theorem cs_frz {st : Stmt} {s : SX} (i : Nat) (h : PS X st (tS X.K s)) : PS X st (tS X.K (sFrz i s)) := h.imp fun D σ H ⟨M, B, H0, G, env, n, out, u, ⟨O, R⟩, e, k⟩ => ⟨M, B, H0, G, _, n, out, u, R.frz i u, e, k⟩
/-- what is owned is changed -/
theorem SRo.write {K : PySem.W.Frag} {M : Option Addr} {B O : List Addr} {H0 H : Hp} {G : Hp → Prop} {env : En} {σ : St} {i : Nat} {c d : D} (R : SRo K M B H0 G O env σ H) (hi : ownD i env = some c) :
    ∃ p, σ[i]? = some (some (.ref p)) ∧ p ∈ O ∧ Cont K (off H O) (H p) c ∧ ∀ o, Cont K (off H O) (some o) d → SRo K M B H0 G O (setMu i d env) σ (upd H p o) := by
  unfold ownD at hi
  have core : ∀ {s : Sl} {d' : Sl} {p : Addr}, env[i]? = some s → s.own = true → σ[i]? = some (some (.ref p)) → p ∈ O → (H0 p = none ∨ M = some p) → d'.own = true → (∀ d'', d' = .mu d'' → H0 p = none) → setMu i d env = env.set i d' →
      (∀ o, Cont K (off H O) (some o) d → SlOk K M O (upd H p o) (some (some (.ref p))) d') → ∀ o, Cont K (off H O) (some o) d → SRo K M B H0 G O (setMu i d env) σ (upd H p o) := by
    intro s d' p hs os h1 h2 h0 od hmu hset hok o hc
    have hl : i < env.length := (List.getElem?_eq_some_iff.mp hs).1
    rw [hset]
    have eo : off (upd H p o) O = off H O := off_upd h2
    refine ⟨⟨fun j t hj => ?_, fun j k t t' q hj hk ot ot' pj pk => ?_, fun q hq => ?_⟩, R.sub, R.new, R.old, fun b ob hb h => ?_, by rw [eo]; exact R.gh, fun j d'' q hj pj => ?_, R.mb, by simp [R.len]⟩
    · by_cases e : i = j
      · subst e
        rw [List.getElem?_set_self hl] at hj
        cases hj
        rw [h1]
        exact hok o hc
      · rw [List.getElem?_set_ne e] at hj
        have ho := R.er.sl j t hj
        cases t with
        | un => trivial
        | pu d'' => obtain ⟨v, g1, g2⟩ := ho; exact ⟨v, g1, by rw [eo]; exact g2⟩
        | mu d'' =>
          obtain ⟨q, g1, g2, g3⟩ := ho
          have nq : q ≠ p := fun z => by
            subst z
            exact e (R.er.ow i j _ _ q hs hj os rfl h1 g1)
          exact ⟨q, g1, g2, by rw [eo, upd_ne nq]; exact g3⟩
        | bo d'' =>
          obtain ⟨q, g1, g0, g2, g3⟩ := ho
          have nq : q ≠ p := fun z => by
            subst z
            exact e (R.er.ow i j _ _ q hs hj os rfl h1 g1)
          exact ⟨q, g1, g0, g2, by rw [eo, upd_ne nq]; exact g3⟩
    · by_cases e : i = j
      · by_cases e2 : i = k
        · exact e.symm.trans e2
        · subst e
          rw [List.getElem?_set_ne e2] at hk
          exact R.er.ow i k s t' q hs hk os ot' pj pk
      · by_cases e2 : i = k
        · subst e2
          rw [List.getElem?_set_ne e] at hj
          exact R.er.ow j i t s q hj hs ot os pj pk
        · rw [List.getElem?_set_ne e] at hj
          rw [List.getElem?_set_ne e2] at hk
          exact R.er.ow j k t t' q hj hk ot ot' pj pk
    · by_cases e : q = p
      · rw [e, upd_same]; simp
      · rw [upd_ne e]; exact R.er.dom q hq
    · have nb : b ≠ p := fun z => by
        subst z
        rcases h0 with h0 | h0
        · rw [h0] at h; cases h
        · exact hb h0
      rw [upd_ne nb]
      exact R.same b ob hb h
    · by_cases e : i = j
      · subst e
        rw [List.getElem?_set_self hl] at hj
        cases hj
        rw [h1] at pj
        cases pj
        exact hmu _ rfl
      · rw [List.getElem?_set_ne e] at hj
        exact R.wr j d'' q hj pj
  split at hi
  · rename_i d0 hd
    cases hi
    obtain ⟨p, h1, h2, h3⟩ := R.er.sl i _ hd
    refine ⟨p, h1, h2, h3, core (d' := .mu d) hd rfl h1 h2 (.inl (R.wr i _ p hd h1)) rfl (fun _ _ => R.wr i _ p hd h1) (by unfold setMu; rw [hd]) fun o hc => ⟨p, rfl, h2, ?_⟩⟩
    rw [off_upd h2, upd_same]
    exact hc
  · rename_i d0 hd
    cases hi
    obtain ⟨p, h1, h0, h2, h3⟩ := R.er.sl i _ hd
    refine ⟨p, h1, h2, h3, core (d' := .bo d) hd rfl h1 h2 (.inr h0) rfl (fun _ z => by cases z) (by unfold setMu; rw [hd]) fun o hc => ⟨p, rfl, h0, h2, ?_⟩⟩
    rw [off_upd h2, upd_same]
    exact hc
  · cases hi
theorem lim_lt {n : Nat} (h : n < lim) : n < sizeLine := Nat.lt_of_lt_of_le h (by decide)
theorem cs_append {x : Str} {i : Nat} {e : Expr} {apos cpos pos p : Pos} {xe : EX} (hv : PE X (.Name x p) (tVar i)) (he : PE X e (tE X.K xe))
    (hb : PE X (.Call (.Attribute (.Name x p) "append" apos) [e] [] cpos) (tBM X.K "list" rAppend (tVar i) (tCons (tE X.K xe) tNil))) (hs : swapsWith (.Call (.Attribute (.Name x p) "append" apos) [e] [] cpos) none pos.line X.env = pure false := by rfl) :
    PS X (.Expr (.Call (.Attribute (.Name x p) "append" apos) [e] [] cpos) pos) (tS X.K (sAppend i xe)) := (ps_expr hb hs).imp fun D σ H ⟨M, B, H0, G, env, n, out, u, ⟨O, R⟩, e, k⟩ => by
  unfold sAppend at e
  cases q : ownD i env with
  | none => rw [q] at e; cases e
  | some c =>
    rw [q] at e
    simp only [Option.bind_some] at e
    split at e
    · rename_i ds
      cases q2 : xe env with
      | none => rw [q2] at e; cases e
      | some r =>
        rw [q2] at e
        simp only [Option.bind_some] at e
        split at e
        · rename_i hl
          cases e
          obtain ⟨pp, h1, h2, ⟨vs, h3, h4⟩, _⟩ := R.write (d := .non) q
          refine ⟨_, h1, .inl ⟨rfl, vs, .of h3⟩, M, O, env, r, R.er, q2, fun v H' s ok => ?_⟩
          have R' := R.mono u s
          obtain ⟨pp', h1', h2', ⟨vs', h3', h4'⟩, w⟩ := R'.write (d := .lst (ds ++ [r.d])) q
          rw [h1] at h1'
          cases h1'
          refine ⟨pp, vs', v, rfl, rfl, h3', by rw [h4'.length]; exact lim_lt hl, k σ _ ⟨O, w _ ⟨vs' ++ [v], rfl, h4'.append (.one ok.1)⟩⟩⟩
        · cases e
    · cases e
theorem DVk.put {K : PySem.W.Frag} {H : Hp} {ky : Key} {d : D} {v : V} (hv : DV K H d v) : ∀ {ds : List (Key × D)} {ws : List (Key × V)}, DVk K H ds ws → DVk K H (putD ds ky d) (putK ws ky v) := by
  have mapv : ∀ {ds : List (Key × D)} {ws : List (Key × V)}, DVk K H ds ws → DVk K H (ds.map fun kv => if kv.1 = ky then (kv.1, d) else kv) (ws.map fun kv => if kv.1 = ky then (kv.1, v) else kv) := by
    intro ds
    induction ds with
    | nil => intro ws h; simp only [DVk] at h; subst h; simp only [List.map_nil, DVk]
    | cons kd ds ih =>
      intro ws h
      obtain ⟨k0, d0⟩ := kd
      simp only [DVk, DVp] at h
      obtain ⟨w, r, rfl, h1, h2⟩ := h
      by_cases e : k0 = ky
      · simp only [List.map_cons, DVk, e, if_true]
        exact ⟨v, _, rfl, by simp only [DVp]; exact hv, ih h2⟩
      · simp only [List.map_cons, DVk, e, if_false]
        exact ⟨w, _, rfl, by simp only [DVp]; exact h1, ih h2⟩
  have app : ∀ {ds : List (Key × D)} {ws : List (Key × V)}, DVk K H ds ws → DVk K H (ds ++ [(ky, d)]) (ws ++ [(ky, v)]) := by
    intro ds
    induction ds with
    | nil => intro ws h; simp only [DVk] at h; subst h; simp only [List.nil_append, DVk, DVp]; exact ⟨v, [], rfl, hv, rfl⟩
    | cons kd ds ih =>
      intro ws h
      simp only [DVk] at h
      obtain ⟨w, r, rfl, h1, h2⟩ := h
      simp only [List.cons_append, DVk]
      exact ⟨w, _, rfl, h1, ih h2⟩
  have anyE : ∀ {ds : List (Key × D)} {ws : List (Key × V)}, DVk K H ds ws → (ds.any fun kv => decide (kv.1 = ky)) = (ws.any fun kv => decide (kv.1 = ky)) := by
    intro ds
    induction ds with
    | nil => intro ws h; simp only [DVk] at h; subst h; rfl
    | cons kd ds ih =>
      intro ws h
      simp only [DVk] at h
      obtain ⟨w, r, rfl, h1, h2⟩ := h
      rw [List.any_cons, List.any_cons, ih h2]
  intro ds ws h
  unfold putD putK
  rw [anyE h]
  split
  · exact mapv h
  · exact app h
end
end FW

set_option linter.all false
set_option Elab.async false
set_option maxRecDepth 100000
namespace FW
open PySem L2
/-! ## targets -/
def TGt (K : PySem.W.Frag) (t : TG) (gd : D → En → Option En) : Prop :=
  ∀ M B H0 G O env σ H v d env' (Q : St → Hp → Prop), Up G → SRo K M B H0 G O env σ H → DV K (off H O) d v → gd d env = some env' → (∀ σ' H', SR K M B H0 G env' σ' H' → Q σ' H') → t v σ H Q
def gdName (i : Nat) : D → En → Option En := fun d env => some (env.set i (.pu d))
theorem tg_name {K : PySem.W.Frag} {i : Nat} : TGt K (gName i) (gdName i) := by
  intro M B H0 G O env σ H v d env' Q u R h e k
  cases e
  exact k _ _ ⟨O, R.put h⟩
def setAll : List Nat → List D → En → Option En
  | [], [], env => some env
  | i :: is, d :: ds, env => setAll is ds (env.set i (.pu d))
  | _, _, _ => none
def gsAll : List Nat → TGs
  | [] => gNil
  | i :: is => gCons (gName i) (gsAll is)
theorem tg_all {K : PySem.W.Frag} {M : Option Addr} {B O : List Addr} {H0 H : Hp} {G : Hp → Prop} {Q : St → Hp → Prop} (u : Up G) : ∀ {is : List Nat} {ds : List D} {vs : List V} {env env' : En} {σ : St}, SRo K M B H0 G O env σ H → DVs K (off H O) ds vs → setAll is ds env = some env' →
    (∀ σ' H', SR K M B H0 G env' σ' H' → Q σ' H') → gsAll is vs σ H Q
  | [], [], _, _, _, _, R, h, e, k => by
    simp only [DVs] at h
    cases e
    exact ⟨h, k _ _ ⟨O, R⟩⟩
  | i :: is, d :: ds, _, _, _, _, R, h, e, k => by
    simp only [DVs] at h
    obtain ⟨v, r, rfl, h1, h2⟩ := h
    exact ⟨v, r, rfl, tg_all u (R.put (i := i) h1) h2 e k⟩
  | [], _ :: _, _, _, _, _, _, _, e, _ => by cases e
  | _ :: _, [], _, _, _, _, _, _, e, _ => by cases e
theorem setAll_len {is : List Nat} {ds : List D} {env env' : En} (h : setAll is ds env = some env') : ds.length = is.length := by
  induction is generalizing ds env with
  | nil => cases ds with | nil => rfl | cons _ _ => cases h
  | cons i is ih => cases ds with | nil => cases h | cons d ds => simp [ih h]
def gdSeq (is : List Nat) : D → En → Option En := fun d env => match d with
  | .tup ds => setAll is ds env
  | .lst ds => setAll is ds env
  | _ => none
/-- (a, b, ..) = a tuple or a list of that length -/
def gSeq (K : PySem.W.Frag) (n : Nat) (t : TGs) : TG := fun v σ H Q => ∃ a xs, v = .ref a ∧ (SqT K H a xs ∨ SqL K H a xs) ∧ xs.length = n ∧ t xs σ H Q
section
variable {X : Cx} {pos : Pos}
theorem pg_seq {es : List Expr} {k : Nat} {t : TGs} {n : Nat} (hc : X.calm = true) (h : PGs X es t)
    (hn : (assignEach es X.env).length = n := by rfl) (hst : (assignEach es X.env).findIdx? (·.1) = none := by rfl) : PG X (.Tuple es k pos) (gSeq X.K n t) := by
  intro pins s σ H v u Q I r hw
  obtain ⟨a, xs, e1, hq, hl, hw⟩ := hw
  rcases hq with hq | hq
  · exact pg_tup hc h hn hst pins s σ H v u Q I r ⟨a, xs, e1, hq, hl, hw⟩
  · subst e1
    cases r
    obtain ⟨its, rv, ht, hz⟩ := I.list hq
    rw [PyProof.Rows.assign_Tuple]
    refine wpAny_bind (wpAny_standAt ?_)
    unfold unpack
    have e2 : (assignEach es X.env).length = its.toArray.size := by simp [hn, ← hl, rv.length]
    rw [e2, hst]
    refine wpAny_bind (wpAny_holding (PySem.W.kun_itemsOf (I.ok.hd hc) ht.isList fun h' hx => ?_))
    have I1 : Inv X pins σ H { s with heap := h' } := I.kept (t' := s.toks) fun b o e => hx b o (Nat.ne_of_lt (Heap.lt_size e)) e
    exact h pins _ σ H xs _ Q I1 (by simpa using rv) hw
theorem tg_seq {K : PySem.W.Frag} {is : List Nat} {n : Nat} (hn : is.length = n) : TGt K (gSeq K n (gsAll is)) (gdSeq is) := by
  intro M B H0 G O env σ H v d env' Q u R h e k
  unfold gdSeq at e
  split at e
  · simp only [DV] at h
    obtain ⟨a, vs, rfl, h1, h2⟩ := h
    exact ⟨a, vs, rfl, .inl (sqT_mono off_same h1), by rw [h2.length, setAll_len e]; exact hn, tg_all u R h2 e k⟩
  · simp only [DV] at h
    obtain ⟨a, vs, rfl, h1, h2⟩ := h
    exact ⟨a, vs, rfl, .inr (sqL_mono off_same h1), by rw [h2.length, setAll_len e]; exact hn, tg_all u R h2 e k⟩
  · cases e
def sAsg (x : EX) (gd : D → En → Option En) : SX := fun _ env => (x env).bind fun r => (gd r.d env).map .nx
theorem cs_asg {tg e : Expr} {g : TG} {xe : EX} {gd : D → En → Option En} (he : PE X e (tE X.K xe)) (hg : PG X tg g) (ht : TGt X.K g gd) (hs : swapsWithSole [tg] e pos.line X.env = pure false := by rfl) (hw : swappedStores [tg] e X.env = pure none := by rfl)
    (h1 : (assignEach [tg] X.env).map (·.2) = [assign tg X.env] := by rfl) : PS X (.Assign [tg] e pos) (tS X.K (sAsg xe gd)) := (ps_asg he hg hs hw h1).imp fun D σ H ⟨M, B, H0, G, env, n, out, u, ⟨O, R⟩, e, k⟩ => by
  unfold sAsg at e
  cases q : xe env with
  | none => rw [q] at e; cases e
  | some r =>
    rw [q] at e
    simp only [Option.bind_some] at e
    cases q2 : gd r.d env with
    | none => rw [q2] at e; cases e
    | some env' =>
      rw [q2] at e
      cases e
      exact ⟨M, O, env, r, R.er, q, fun v H' s ok => ht M B H0 G O env σ H' v r.d env' _ u (R.mono u s) ok.1 q2 fun σ' H2 R2 => k σ' H2 R2⟩
/-- a, b = x, y: two names -/
def sPar (i j : Nat) (xs : AX) : SX := fun _ env => (xs env).bind fun ds => match ds with
  | [d, e] => some (.nx ((env.set i (.pu d)).set j (.pu e)))
  | _ => none
end
/-! ## while -/
def loopW (c : BX) (b : SX) (n : Nat) : Nat → En → Option Out
  | 0, _ => none
  | m + 1, env => (c env).bind fun x => match x with
    | .bl true => (b n env).bind fun o => match o with
      | .nx e => loopW c b n m e
      | .ct e => loopW c b n m e
      | .bk e => some (.nx e)
      | .rt r e => some (.rt r e)
    | .bl false => some (.nx env)
    | _ => none
def sWhile (c : BX) (b : SX) : SX := fun n env => loopW c b n n env
theorem RtOk.weak {K : PySem.W.Frag} {M : Option Addr} {B : List Addr} {H0 H' : Hp} {G G' : Hp → Prop} {e : En} {v : V} {r : RV} (h : RtOk K M B H0 G e v H' r) (w : ∀ H, G H → G' H) : RtOk K M B H0 G' e v H' r := ⟨h.1, h.2.1, w _ h.2.2.1, h.2.2.2⟩
section
variable {X : Cx} {pos : Pos}
end
/-! ## for -/
structure ItOk (K : PySem.W.Frag) (J : It) (ds : List D) (Gi : Hp → Prop) : Prop where
  go : ∀ (i : Nat) H O, (∀ p ∈ O, H p ≠ none) → Gi (off H O) → i < ds.length → J.go i H
  stop : ∀ H O, (∀ p ∈ O, H p ≠ none) → Gi (off H O) → J.stop ds.length H
  yld : ∀ (i : Nat) H O x H', (∀ p ∈ O, H p ≠ none) → Gi (off H O) → i < ds.length → J.yld i H x H' → ∃ d, ds[i]? = some d ∧ Same H H' ∧ DV K (off H' O) d x
def PIx (K : PySem.W.Frag) (wi : TI) (src : AX) : Prop :=
  ∀ M O env σ H ds R, ER K M O env σ H → src env = some ds → (∀ J H1 Gi, Same H H1 → Up Gi → Gi (off H1 O) → ItOk K J ds Gi → R J H1) → wi σ H R
def loopF (gd : D → En → Option En) (b : SX) (n : Nat) : List D → En → Option Out
  | [], env => some (.nx env)
  | d :: ds, env => (gd d env).bind fun e1 => (b n e1).bind fun o => match o with
    | .nx e => loopF gd b n ds e
    | .ct e => loopF gd b n ds e
    | .bk e => some (.nx e)
    | .rt r e => some (.rt r e)
def sFor (src : AX) (gd : D → En → Option En) (b : SX) : SX := fun n env => (src env).bind fun ds => loopF gd b n ds env
section
variable {X : Cx} {pos : Pos}
theorem cs_for {tg iter : Expr} {body : List Stmt} {wi : TI} {g : TG} {src : AX} {gd : D → En → Option En} {b : SX} (hp : PassesOwn (model X.prog X.w) X.A X.env X.xe) (hc : X.calm = true) (hi : PI X tg iter wi) (pw : PIx X.K wi src) (hg : PG X tg g) (ht : TGt X.K g gd) (hb : PSs X body (tS X.K b))
    (hs : ∀ x, foldedSetIterable iter X.env x = pure x := by intro _; rfl) : PS X (.For tg iter body [] pos) (tS X.K (sFor src gd b)) := (ps_for hp hc hi hg hb hs).imp fun D σ H ⟨M, B, H0, G, env, n, out, u, ⟨O, R⟩, e, k⟩ => by
  unfold sFor at e
  cases q : src env with
  | none => rw [q] at e; cases e
  | some ds =>
    rw [q] at e
    simp only [Option.bind_some] at e
    refine pw M O env σ H ds _ R.er q fun J H1 Gi s1 ui g1 it => ?_
    let G' : Hp → Prop := fun Ho => G Ho ∧ Gi Ho
    have u' : Up G' := fun a b s z => ⟨u a b s z.1, ui a b s z.2⟩
    have R1 := R.mono u s1
    have R1' : SRo X.K M B H0 G' O env σ H1 := ⟨R1.er, R1.sub, R1.new, R1.old, R1.same, ⟨R1.gh, g1⟩, R1.wr, R1.mb, R1.len⟩
    refine ⟨fun i m σ H => m = ds.length - i ∧ i ≤ ds.length ∧ ∃ env, SR X.K M B H0 G' env σ H ∧ loopF gd b n (ds.drop i) env = some out, ⟨ds.length, by simp, Nat.zero_le _, env, ⟨O, R1'⟩, by simpa using e⟩, ?_⟩
    rintro i m σ H ⟨rfl, hi, env, ⟨O, R⟩, e⟩
    by_cases hlt : i < ds.length
    · have hd : ds.drop i = ds[i] :: ds.drop (i + 1) := List.drop_eq_getElem_cons hlt
      rw [hd, loopF] at e
      cases q1 : gd ds[i] env with
      | none => rw [q1] at e; cases e
      | some e1 =>
        rw [q1] at e
        simp only [Option.bind_some] at e
        cases q2 : b n e1 with
        | none => rw [q2] at e; cases e
        | some o =>
          rw [q2] at e
          simp only [Option.bind_some] at e
          refine .inr ⟨it.go i H O R.er.dom R.gh.2 hlt, fun σ' H' => ∃ env, SR X.K M B H0 G' env σ' H' ∧ loopF gd b n (ds.drop (i + 1)) env = some out, fun σ' H' z => ⟨ds.length - (i + 1), by omega, rfl, hlt, z⟩, fun x H' y => ?_⟩
          obtain ⟨d, h1, h2, h3⟩ := it.yld i H O x H' R.er.dom R.gh.2 hlt y
          have h1' : ds[i] = d := by
            rw [List.getElem?_eq_getElem hlt] at h1
            exact Option.some.inj h1
          rw [h1'] at q1
          refine ht M B H0 G' O env σ H' x d e1 _ u' (R.mono u' h2) h3 q1 fun σ2 H2 R2 => ⟨M, B, H0, G', e1, n, o, u', R2, q2, ?_⟩
          cases o with
          | nx e2 => exact fun σ' H' R' => ⟨e2, R', e⟩
          | ct e2 => exact fun σ' H' R' => ⟨e2, R', e⟩
          | bk e2 => cases e; exact fun σ' H' R' => k σ' H' (R'.weak fun _ z => z.1)
          | rt r e2 => cases e; exact fun v H' R' => k v H' (R'.weak fun _ z => z.1)
    · have e0 : i = ds.length := by omega
      subst e0
      rw [List.drop_length, loopF] at e
      cases e
      exact .inl ⟨it.stop H O R.er.dom R.gh.2, k σ H ⟨O, R.weak fun _ z => z.1⟩⟩
/-! sources -/
def srcL (x : EX) : AX := fun env => (x env).bind fun r => match r.d with
  | .lst ds => some ds
  | _ => none
theorem it_list {K : PySem.W.Frag} {a : Addr} {vs : List V} {ds : List D} : ItOk K (Itl K a) ds (fun Ho => SqL K Ho a vs ∧ DVs K Ho ds vs) := by
  refine ⟨fun i H O _ g hi => ?_, fun H O _ g => ?_, fun i H O x H' _ g hi y => ?_⟩
  · have hl := g.2.length
    exact ⟨vs, vs[i]'(by omega), sqL_mono off_same g.1, by simp⟩
  · exact ⟨vs, sqL_mono off_same g.1, by rw [g.2.length]; exact Nat.le_refl _⟩
  · obtain ⟨rfl, y⟩ := y
    have y1 := y vs (sqL_mono off_same g.1)
    obtain ⟨v, h1, h2⟩ := g.2.get (List.getElem?_eq_getElem hi)
    rw [y1] at h1
    cases h1
    exact ⟨_, List.getElem?_eq_getElem hi, Same.refl _, h2⟩
theorem pix_list {K : PySem.W.Frag} {x : EX} : PIx K (iList K (tE K x)) (srcL x) := by
  intro M O env σ H ds R er e k
  unfold srcL at e
  cases q : x env with
  | none => rw [q] at e; cases e
  | some r =>
    rw [q] at e
    simp only [Option.bind_some] at e
    split at e
    · rename_i ds' hd
      cases e
      refine ⟨M, O, env, r, er, q, fun v H1 s1 ok => ?_⟩
      have h := ok.1
      rw [hd] at h
      simp only [DV] at h
      obtain ⟨a, vs, rfl, h1, h2⟩ := h
      exact ⟨a, rfl, ⟨vs, sqL_mono off_same h1⟩, k _ H1 _ s1 (fun A B s z => ⟨sqL_mono s z.1, z.2.mono s⟩) ⟨h1, h2⟩ it_list⟩
    · cases e
def enumD : Nat → List D → List D
  | _, [] => []
  | k, d :: ds => .tup [.int k, d] :: enumD (k + 1) ds
theorem enumD_len : ∀ {k : Nat} {ds : List D}, (enumD k ds).length = ds.length
  | _, [] => rfl
  | k, d :: ds => by simp [enumD, enumD_len]
theorem enumD_get : ∀ {k : Nat} {ds : List D} {i : Nat} {d : D}, ds[i]? = some d → (enumD k ds)[i]? = some (.tup [.int (k + i : Nat), d])
  | _, [], _, _, h => by simp at h
  | k, d :: ds, 0, _, h => by simp at h; subst h; simp [enumD]
  | k, d :: ds, i + 1, x, h => by
    have := enumD_get (k := k + 1) (i := i) (d := x) (by simpa using h)
    simp only [enumD, List.getElem?_cons_succ]
    rw [this]
    congr 4
    omega
def srcEn (x : EX) : AX := fun env => (srcL x env).map (enumD 0)
theorem it_enum {K : PySem.W.Frag} {a : Addr} {vs : List V} {ds : List D} : ItOk K (Ite K a) (enumD 0 ds) (fun Ho => SqL K Ho a vs ∧ DVs K Ho ds vs) := by
  refine ⟨fun i H O _ g hi => ?_, fun H O _ g => ?_, fun i H O x H' dom g hi y => ?_⟩
  · rw [enumD_len] at hi
    have hl := g.2.length
    exact ⟨vs, vs[i]'(by omega), sqL_mono off_same g.1, by simp⟩
  · rw [enumD_len]
    exact ⟨vs, sqL_mono off_same g.1, by rw [g.2.length]; exact Nat.le_refl _⟩
  · rw [enumD_len] at hi
    obtain ⟨T, x0, rfl, hT, rfl, y⟩ := y
    have y1 := y vs (sqL_mono off_same g.1)
    obtain ⟨v, h1, h2⟩ := g.2.get (List.getElem?_eq_getElem hi)
    rw [y1] at h1
    cases h1
    refine ⟨_, enumD_get (List.getElem?_eq_getElem hi), same_upd hT, ?_⟩
    have nT : T ∉ O := fun z => dom T z hT
    simp only [DV, DVs]
    exact ⟨T, _, rfl, .of (off_some.mpr ⟨nT, upd_same⟩), _, _, rfl, by simp, _, _, rfl, h2.mono (off_mono (same_upd hT)), rfl⟩
theorem pix_enum {K : PySem.W.Frag} {x : EX} : PIx K (iEnum K (tCons (tE K x) tNil)) (srcEn x) := by
  intro M O env σ H ds R er e k
  unfold srcEn srcL at e
  cases q : x env with
  | none => rw [q] at e; cases e
  | some r =>
    rw [q] at e
    simp only [Option.bind_some] at e
    split at e
    · rename_i ds' hd
      cases e
      refine ⟨M, O, env, r, er, q, fun v H1 s1 ok => ?_⟩
      have h := ok.1
      rw [hd] at h
      simp only [DV] at h
      obtain ⟨a, vs, rfl, h1, h2⟩ := h
      exact ⟨a, vs, rfl, sqL_mono off_same h1, k _ H1 _ s1 (fun A B s z => ⟨sqL_mono s z.1, z.2.mono s⟩) ⟨h1, h2⟩ it_enum⟩
    · cases e
end
/-! ## a def -/
def fnD (m : Nat) (s : SX) (n : Nat) (ds : List D) : Option RV := match s n (ds.map Sl.pu ++ List.replicate (m - ds.length) Sl.un) with
  | some (.nx _) => some ⟨.non, false⟩
  | some (.rt r _) => some r
  | _ => none
theorem start_ok {K : PySem.W.Frag} {N : List Str} {O : List Addr} {H : Hp} {ds : List D} {vs : List V} (h : DVs K (off H O) ds vs) (dom : ∀ p ∈ O, H p ≠ none) (hl : vs.length ≤ N.length) :
    SR K none O H (fun _ => True) (ds.map Sl.pu ++ List.replicate (N.length - ds.length) Sl.un) (start N vs) H := by
  have hv := h.length
  have sl : ∀ (i : Nat) (s : Sl), (ds.map Sl.pu ++ List.replicate (N.length - ds.length) Sl.un)[i]? = some s → (∃ d, s = .pu d ∧ ds[i]? = some d) ∨ s = .un := fun i s e => by
    by_cases hi : i < ds.length
    · rw [List.getElem?_append_left (by simpa using hi), List.getElem?_map] at e
      cases q : ds[i]? with
      | none => rw [q] at e; cases e
      | some d => rw [q] at e; cases e; exact .inl ⟨d, rfl, rfl⟩
    · rw [List.getElem?_append_right (by simpa using hi)] at e
      exact .inr (List.eq_of_mem_replicate (List.mem_of_getElem? e))
  refine ⟨O, ⟨⟨fun i s e => ?_, fun i j s t p hi hj os ot _ _ => ?_, dom⟩, fun _ z => z, fun p hp => .inl hp, dom, fun b o _ z => z, trivial, fun i d p hi _ => ?_, fun p z => (by cases z), ?_⟩⟩
  · rcases sl i s e with ⟨d, rfl, hd⟩ | rfl
    · obtain ⟨v, h1, h2⟩ := h.get hd
      refine ⟨v, ?_, h2⟩
      have hi : i < vs.length := (List.getElem?_eq_some_iff.mp h1).1
      unfold L2.start
      rw [List.getElem?_append_left (by simpa using hi), List.getElem?_map, h1]
      rfl
    · trivial
  · rcases sl i s hi with ⟨d, rfl, _⟩ | rfl <;> cases os
  · rcases sl i _ hi with ⟨d', z, _⟩ | z <;> cases z
  · unfold L2.start
    simp [hv]
theorem fn_ok {P : Program} {w : World} {K : PySem.W.Frag} {mg : Str → Option Value} {base : Heap} {x qual : Str} {st : Stmt} {f : Addr} {fd : FuncData} {N ps : List Str} {k : Nat} {s : SX} {Fn : List D → Option RV}
    (F : Fun K x qual st f fd) (S : FnScope N ps (defScope st)) (hN : ps.length ≤ N.length) (hF : ∀ ds r, Fn ds = some r → ∃ n, fnD N.length s n ds = some r)
    (hb : ∀ (cdv : Value) (A : Around) (outer : List Env) (s0 : Shared) (H : Hp) (E : XK), Room k (A.deeper (PyProof.Rows.envOfC qual (defScope st) s0.heap.objs.size f cdv)) → PSs (cxOf CX0 P w K mg base N qual (defScope st) f cdv A outer s0 H E).nox (defBody st) (tS K s)) :
    FnOk P w K mg base CX0 (k + 1) f fd ps (SpF K ps.length Fn) := by
  refine F.ok S (fun vs H Q E h => h.1) (fun cdv A outer s0 H vs Q E hr h => ⟨_, hb cdv A outer s0 H E hr, ?_⟩)
  obtain ⟨hl, O, ds, r, dom, dv, e, kq⟩ := h
  obtain ⟨n, e⟩ := hF ds r e
  unfold fnD at e
  have R := start_ok (N := N) dv dom (by rw [hl]; exact hN)
  split at e
  · rename_i e1 he
    cases e
    refine ⟨none, O, H, _, _, n, _, fun _ _ _ z => z, R, he, fun σ' H' ⟨O', R'⟩ => ?_⟩
    exact kq _ H' (fun b o z => R'.same b o (by intro q; cases q) z) ⟨by simp only [DV], fun z => by cases z⟩
  · rename_i r' e1 he
    cases e
    exact ⟨none, O, H, _, _, n, _, fun _ _ _ z => z, R, he, fun v H' ok => kq v H' (fun b o z => ok.2.1 b o (by intro q; cases q) z) ok.1⟩
  · cases e
end FW

set_option linter.all false
set_option Elab.async false
set_option maxRecDepth 100000
namespace FW
open PySem L2
/-- a def that may be called -/
def Cal (P : Program) (w : World) (K : PySem.W.Frag) (mg : Str → Option Value) (base : Heap) (k : Nat) (x : Str) (n : Nat) (F : List D → Option RV) : Prop :=
  ∃ (f : Addr) (fd : FuncData) (ps : List Str), mg x = some (.ref f) ∧ PySem.W.keepIn K (.ref f) = true ∧ Binds K fd ps [] ∧ FnOk P w K mg base CX0 k f fd ps (SpF K n F)
theorem ce_callC {X : Cx} {k j : Nat} {F : List D → Option RV} {x : Str} {p pos : Pos} {e : Expr} {es : List Expr} {xs : AX} {n : Nat} (C : Cal X.prog X.w X.K X.mg X.base k x n F) (hr : Room j X.A) (hk : k ≤ j) (hg : Gl X x)
    (ha : PA X (e :: es) (tEs X.K xs)) (hdb : (x == ("__debug__" : Str)) = false := by decide) (he : starEach (e :: es) X.env = (false, eval e X.env) :: starEach es X.env := by rfl) (hpl : (backTo pos (starEach es X.env)).any (·.1) = false := by rfl) :
    PE X (.Call (.Name x p) (e :: es) [] pos) (tE X.K (eCallN n F xs)) := by
  obtain ⟨f, fd, ps, h1, h2, h3, h4⟩ := C
  exact ce_call h4 (hr.mono hk) hg h1 h2 h3 ha hdb he hpl
theorem Cal.mk {P : Program} {w : World} {K : PySem.W.Frag} {mg : Str → Option Value} {base : Heap} {x qual : Str} {st : Stmt} {f : Addr} {fd : FuncData} {N ps : List Str} {k : Nat} {s : SX} {Fn : List D → Option RV}
    (F : Fun K x qual st f fd) (mf : mg x = some (.ref f)) (bf : Binds K fd ps []) (S : FnScope N ps (defScope st)) (hN : ps.length ≤ N.length) (hF : ∀ ds r, Fn ds = some r → ∃ n, fnD N.length s n ds = some r)
    (hb : ∀ (cdv : Value) (A : Around) (outer : List Env) (s0 : Shared) (H : Hp) (E : XK), Room k (A.deeper (PyProof.Rows.envOfC qual (defScope st) s0.heap.objs.size f cdv)) → PSs (cxOf CX0 P w K mg base N qual (defScope st) f cdv A outer s0 H E).nox (defBody st) (tS K s)) :
    Cal P w K mg base (k + 1) x ps.length Fn := ⟨f, fd, ps, mf, F.kp, bf, fn_ok F S hN hF hb⟩
theorem Cal.imp {P : Program} {w : World} {K : PySem.W.Frag} {mg : Str → Option Value} {base : Heap} {k n : Nat} {x : Str} {F F' : List D → Option RV} (h : Cal P w K mg base k x n F) (hF : ∀ ds r, F' ds = some r → F ds = some r) : Cal P w K mg base k x n F' := by
  obtain ⟨f, fd, ps, h1, h2, h3, h4⟩ := h
  exact ⟨f, fd, ps, h1, h2, h3, h4.imp fun vs H Q E ⟨q1, O, ds, r, q2, q3, q4, q5⟩ => ⟨q1, O, ds, r, q2, q3, hF _ _ q4, q5⟩⟩
section
variable {X : Cx} {pos : Pos}
end
end FW

set_option linter.all false
set_option Elab.async false
set_option maxRecDepth 100000
/-! what the words come to, applied: for simp -/
namespace FW
open PySem L2
section
variable {i j k n m : Nat} {a b : Int} {env : En} {x y : BX} {ex ey : EX} {ax : AX} {s t : SX} {d e : D} {ds es : List D} {f : D → D → Option D} {g : D → Option D} {h : List D → Option D} {F : List D → Option RV}
@[simp] theorem fAdd_i : fAdd (.int a) (.int b) = some (.int (a + b)) := rfl
@[simp] theorem fSub_i : fSub (.int a) (.int b) = some (.int (a - b)) := rfl
theorem fMul_i (h : mulB a b = true) : fMul (.int a) (.int b) = some (.int (a * b)) := by unfold fMul fI; simp [h]
theorem fDiv_i (h : divB a b = true) : fDiv (.int a) (.int b) = some (.int (a.fdiv b)) := by unfold fDiv fI; simp [h]
theorem fMod_i (h : b ≠ 0) : fMod (.int a) (.int b) = some (.int (a.fmod b)) := by unfold fMod fI modB; simp [h]
theorem fPow_i (h : powB a b = true) : fPow (.int a) (.int b) = some (.int (a ^ b.toNat)) := by unfold fPow fI; simp [h]
@[simp] theorem fLt_i : fLt (.int a) (.int b) = some (.bl (decide (a < b))) := rfl
@[simp] theorem fLe_i : fLe (.int a) (.int b) = some (.bl (decide (a ≤ b))) := rfl
@[simp] theorem fGt_i : fGt (.int a) (.int b) = some (.bl (decide (b < a))) := rfl
@[simp] theorem fGe_i : fGe (.int a) (.int b) = some (.bl (decide (b ≤ a))) := rfl
@[simp] theorem fNeg_i : fNeg (.int a) = some (.int (-a)) := rfl
@[simp] theorem fAbs_i : fAbs [.int a] = some (.int (a.natAbs : Int)) := by
  have : (if a < 0 then -a else a) = (a.natAbs : Int) := by split <;> omega
  unfold fAbs; simp [this]
@[simp] theorem fMax2_i : fMax2 [.int a, .int b] = some (.int (if b > a then b else a)) := rfl
@[simp] theorem fLen_l : fLen [.lst ds] = some (.int ds.length) := rfl
@[simp] theorem fLen_t : fLen [.tup ds] = some (.int ds.length) := rfl
@[simp] theorem fLen_d {kvs : List (Key × D)} : fLen [.dic kvs] = some (.int kvs.length) := rfl
@[simp] theorem okP_i : okP (.int a) = true := by
  simp [okP, noDic, toP, SeqAt.shaped, PyData.canLay0, PyData.depth]
@[simp] theorem okP_b {c : Bool} : okP (.bl c) = true := by
  simp [okP, noDic, toP, SeqAt.shaped, PyData.canLay0, PyData.depth]
@[simp] theorem fEq_i : fEq (.int a) (.int b) = some (.bl (decide (a = b))) := by
  simp [fEq, D.at, D.v, scal]
@[simp] theorem fNe_i : fNe (.int a) (.int b) = some (.bl (!decide (a = b))) := by
  simp [fNe, D.at, D.v, scal]
@[simp] theorem fEq_b {c e : Bool} : fEq (.bl c) (.bl e) = some (.bl (decide (c = e))) := by
  simp [fEq, D.at, D.v, scal]
@[simp] theorem fEq_s {c e : Str} : fEq (.str c) (.str e) = some (.bl (decide (c = e))) := by
  simp [fEq, D.at, D.v, scal]
@[simp] theorem fNe_s {c e : Str} : fNe (.str c) (.str e) = some (.bl (!decide (c = e))) := by
  simp [fNe, D.at, D.v, scal]
@[simp] theorem eVar_a : eVar i env = (match env[i]? with | some (.pu d) => some ⟨d, false⟩ | _ => none) := rfl
@[simp] theorem bVar_a : bVar i env = (match env[i]? with | some (.pu d) => some d | some (.mu d) => some d | some (.bo d) => some d | _ => none) := rfl
@[simp] theorem cst_a : cst d env = some d := rfl
@[simp] theorem eB_a : eB x env = (x env).bind fun d => if d.at then some ⟨d, false⟩ else none := rfl
@[simp] theorem bE_a : bE ex env = (ex env).map (·.d) := rfl
@[simp] theorem b1_a : b1 g x env = (x env).bind g := rfl
@[simp] theorem b2_a : b2 f x y env = (x env).bind fun c => (y env).bind fun d => f c d := rfl
@[simp] theorem bn_a : bn h ax env = (ax env).bind h := rfl
@[simp] theorem bAnd_a : bAnd x y env = (x env).bind fun z => match z with | .bl true => y env | .bl false => some (.bl false) | _ => none := rfl
@[simp] theorem bOr_a : bOr x y env = (x env).bind fun z => match z with | .bl false => y env | .bl true => some (.bl true) | _ => none := rfl
@[simp] theorem bNot_a : bNot x env = (x env).bind fun z => match z with | .bl b => some (.bl !b) | _ => none := rfl
@[simp] theorem eIf_a : eIf x ex ey env = (x env).bind fun z => match z with | .bl true => ex env | .bl false => ey env | _ => none := rfl
@[simp] theorem aNil_a : aNil env = some [] := rfl
@[simp] theorem aCons_a : aCons ex ax env = (ex env).bind fun r => (ax env).bind fun ds => some (r.d :: ds) := rfl
@[simp] theorem abCons_a : abCons x ax env = (x env).bind fun r => (ax env).bind fun ds => some (r :: ds) := rfl
@[simp] theorem eTup_a : eTup ax env = (ax env).bind fun ds => if ds.length ≤ lim then some ⟨.tup ds, false⟩ else none := rfl
@[simp] theorem eLst_a : eLst ax env = (ax env).bind fun ds => if ds.length ≤ lim then some ⟨.lst ds, true⟩ else none := rfl
@[simp] theorem eDict_a : eDict env = some ⟨.dic [], true⟩ := rfl
@[simp] theorem eCallN_a : eCallN n F ax env = (ax env).bind fun ds => if ds.length = n then F ds else none := rfl
@[simp] theorem eIx_a : eIx x y env = (x env).bind fun c => (y env).bind fun i => (ixD c i).map fun d => ⟨d, false⟩ := rfl
@[simp] theorem sNext_a : sNext n env = some (.nx env) := rfl
@[simp] theorem sSeq_a : sSeq s t n env = (s n env).bind fun o => match o with | .nx e => t n e | o => some o := rfl
@[simp] theorem sIf_a : sIf x s t n env = (x env).bind fun z => match z with | .bl true => s n env | .bl false => t n env | _ => none := rfl
@[simp] theorem sSet_a : sSet i ex n env = (ex env).map fun r => .nx (env.set i (slotOf r)) := rfl
@[simp] theorem slotOf_f : slotOf ⟨d, false⟩ = .pu d := rfl
@[simp] theorem slotOf_t : slotOf ⟨d, true⟩ = .mu d := rfl
@[simp] theorem sExpr_a : sExpr ex n env = (ex env).map fun _ => .nx env := rfl
@[simp] theorem sRet_a : sRet ex n env = (ex env).map fun r => .rt r env := rfl
@[simp] theorem sRetV_a : sRetV i n env = (match env[i]? with | some (.mu d) => some (.rt ⟨d, true⟩ env) | some (.pu d) => some (.rt ⟨d, false⟩ env) | _ => none) := rfl
@[simp] theorem sRetN_a : sRetN n env = some (.rt ⟨.non, false⟩ env) := rfl
@[simp] theorem sBreak_a : sBreak n env = some (.bk env) := rfl
@[simp] theorem sCont_a : sCont n env = some (.ct env) := rfl
@[simp] theorem sFrz_a : sFrz i s n env = s n (frz i env) := rfl
@[simp] theorem sAppend_a : sAppend i ex n env = (ownD i env).bind fun c => match c with | .lst ds => (ex env).bind fun r => if ds.length < lim then some (.nx (setMu i (.lst (ds ++ [r.d])) env)) else none | _ => none := rfl
@[simp] theorem sDput_a : sDput i x ex n env = (ownD i env).bind fun c => match c with | .dic kvs => (ex env).bind fun r => (x env).bind fun kd => (keyD kd).bind fun ky => if kvs.length < lim then some (.nx (setMu i (.dic (putD kvs ky r.d)) env)) else none | _ => none := rfl
@[simp] theorem ownD_a : ownD i env = (match env[i]? with | some (.mu d) => some d | some (.bo d) => some d | _ => none) := rfl
@[simp] theorem setMu_a : setMu i d env = (match env[i]? with | some (.bo _) => env.set i (.bo d) | _ => env.set i (.mu d)) := rfl
@[simp] theorem frz_a : frz i env = (match env[i]? with | some (.mu d) => env.set i (.pu d) | _ => env) := rfl
@[simp] theorem sAsg_a {gd : D → En → Option En} : sAsg ex gd n env = (ex env).bind fun r => (gd r.d env).map .nx := rfl
@[simp] theorem sPar_a : sPar i j ax n env = (ax env).bind fun ds => match ds with | [d, e] => some (.nx ((env.set i (.pu d)).set j (.pu e))) | _ => none := rfl
@[simp] theorem gdName_a : gdName i d env = some (env.set i (.pu d)) := rfl
@[simp] theorem gdSeq_t {is : List Nat} : gdSeq is (.tup ds) env = setAll is ds env := rfl
@[simp] theorem gdSeq_l {is : List Nat} : gdSeq is (.lst ds) env = setAll is ds env := rfl
@[simp] theorem setAll_0 : setAll [] [] env = some env := rfl
@[simp] theorem setAll_s {is : List Nat} : setAll (i :: is) (d :: ds) env = setAll is ds (env.set i (.pu d)) := rfl
@[simp] theorem sWhile_a : sWhile x s n env = loopW x s n n env := rfl
@[simp] theorem sFor_a {gd : D → En → Option En} : sFor ax gd s n env = (ax env).bind fun ds => loopF gd s n ds env := rfl
@[simp] theorem srcL_a : srcL ex env = (ex env).bind fun r => match r.d with | .lst ds => some ds | _ => none := rfl
@[simp] theorem srcEn_a : srcEn ex env = (srcL ex env).map (enumD 0) := rfl
@[simp] theorem at_i : (D.int a).at = true := rfl
@[simp] theorem at_b {c : Bool} : (D.bl c).at = true := rfl
@[simp] theorem at_n : D.non.at = true := rfl
@[simp] theorem at_s {c : Str} : (D.str c).at = true := rfl
@[simp] theorem isO_n : D.non.isO = false := rfl
@[simp] theorem isO_b {c : Bool} : (D.bl c).isO = false := rfl
@[simp] theorem isO_i : (D.int a).isO = false := rfl
@[simp] theorem isO_s {c : Str} : (D.str c).isO = false := rfl
@[simp] theorem isO_t : (D.tup ds).isO = false := rfl
@[simp] theorem isO_l : (D.lst ds).isO = false := rfl
@[simp] theorem isO_d {kvs : List (Key × D)} : (D.dic kvs).isO = false := rfl
@[simp] theorem fIs_a {U : String} : fIs U d = if d.isO then none else (kitT (tyN d) U).map .bl := rfl
@[simp] theorem ty_i : tyN (.int a) = "int" := rfl
@[simp] theorem ty_b {c : Bool} : tyN (.bl c) = "bool" := rfl
@[simp] theorem ty_t : tyN (.tup ds) = "tuple" := rfl
@[simp] theorem ty_l : tyN (.lst ds) = "list" := rfl
@[simp] theorem ty_d {kvs : List (Key × D)} : tyN (.dic kvs) = "dict" := rfl
@[simp] theorem ty_s {c : Str} : tyN (.str c) = "str" := rfl
@[simp] theorem ty_n : tyN .non = "NoneType" := rfl
@[simp] theorem k_ii : kitT "int" "int" = some true := by decide +kernel
@[simp] theorem k_ib : kitT "int" "bool" = some false := by decide +kernel
@[simp] theorem k_bb : kitT "bool" "bool" = some true := by decide +kernel
@[simp] theorem k_bi : kitT "bool" "int" = some true := by decide +kernel
@[simp] theorem k_tt : kitT "tuple" "tuple" = some true := by decide +kernel
@[simp] theorem k_ll : kitT "list" "list" = some true := by decide +kernel
@[simp] theorem k_dd : kitT "dict" "dict" = some true := by decide +kernel
@[simp] theorem k_ss : kitT "str" "str" = some true := by decide +kernel
@[simp] theorem keyD_i : keyD (.int a) = some (.inl a) := rfl
@[simp] theorem ixD_l : ixD (.lst ds) (.int a) = atI ds a := rfl
@[simp] theorem ixD_t : ixD (.tup ds) (.int a) = atI ds a := rfl
@[simp] theorem ixD_d {kvs : List (Key × D)} : ixD (.dic kvs) d = (keyD d).bind (valD kvs) := rfl
theorem fnD_a : fnD m s n ds = (match s n (ds.map Sl.pu ++ List.replicate (m - ds.length) Sl.un) with | some (.nx _) => some ⟨.non, false⟩ | some (.rt r _) => some r | _ => none) := rfl
end
theorem mulB_r {i j : Int} (h : j.natAbs < 2 ^ 64) : mulB i j = true := by
  unfold mulB
  rw [decide_eq_true h]
  simp
theorem mulB_l {i j : Int} (h : i.natAbs < 2 ^ 64) : mulB i j = true := by
  unfold mulB
  rw [decide_eq_true h]
  simp
theorem big_ok : (2 : Nat) ^ 64 ≤ big := by decide
theorem divB_c {i j : Int} (h : j ≠ 0) (h2 : j.natAbs < big) : divB i j = true := by
  unfold divB
  rw [decide_eq_true h, decide_eq_true h2]
  rfl
theorem lt_big {n : Nat} (h : n < 2 ^ 64) : n < big := Nat.lt_of_lt_of_le h big_ok
end FW

set_option linter.all false
set_option Elab.async false
set_option maxRecDepth 100000
namespace FW
open PySem L2
theorem off_nil {H : Hp} : off H [] = H := by funext b; simp [off]
theorem dvs_ints {K : PySem.W.Frag} {H : Hp} : ∀ ns : List Int, DVs K H (ns.map D.int) (ns.map V.int)
  | [] => by simp [DVs]
  | n :: ns => by
    simp only [List.map_cons, DVs, DV]
    exact ⟨_, _, rfl, rfl, dvs_ints ns⟩
theorem walkF {l : PySem.W.OpenLaw} {q : Program} {loose : List Str} {XP : (Str → Option Value) → Heap → Prop} {YP : World → Heap → Prop} {d : DefRec} {K : Params → PySem.W.Frag} {x : Str} {k : Nat} {F : List D → Option RV} (hn : l.most = some 63) (hdf : d.params.defaults = []) (hr : Room k callerA)
    (hY : ∀ (w : World) (h : Heap), YP w h → (K w.params).In h)
    (hF : ∀ (w : World) (mg : Str → Option Value) (fa : Addr) (h : Heap), (K w.params).In h → h.Ns mainGlobals mg → mg d.name = some (.ref fa) →
      ∃ fd : FuncData, (∀ (s : Shared) (u : Value), BindsTo s fd ⟨[u], []⟩ [(x, u)]) ∧ ∀ base : Heap, (K w.params).In base → base.Ns mainGlobals mg → FnOk l.prog w (K w.params) mg base CX0 k fa fd [x] (SpF (K w.params) 1 F))
    (ht : ∀ ns : List Int, ns.length ≤ 63 → ∃ b, F [.lst (ns.map D.int)] = some ⟨.bl true, b⟩) :
    PySem.W.WalkO q loose XP YP l.row.toRowW d [] (fun f vs => PySem.call f vs) := by
  refine L2.walk_of (n := 63) (k := k) (x := x) (CX := fun _ => CX0) (sp := fun w => SpF (K w.params) 1 F) hn (by decide) hdf hr hY hF (fun w H a ns hl hO hS => ?_) fun _ _ _ _ _ z => z
  obtain ⟨b, e⟩ := ht ns hl
  refine ⟨rfl, [], [.lst (ns.map D.int)], ⟨.bl true, b⟩, fun p hp => absurd hp (by simp), ?_, e, fun v H' s ok => ?_⟩
  · rw [off_nil]
    simp only [DVs, DV]
    exact ⟨_, _, rfl, ⟨a, _, rfl, hS, dvs_ints ns⟩, rfl⟩
  · have := ok.1
    simpa only [DV] using this
end FW

set_option linter.all false
set_option Elab.async false
set_option maxRecDepth 100000
namespace FW
open PySem L2
/-! ## texts with fields -/
def fFmt : D → Option D
  | .int i => if i.natAbs < 2 ^ 1900 then some (.str (toString i)) else none
  | .str x => if x.length ≤ lim then some (.str x) else none
  | _ => none
section
variable {X : Cx} {pos : Pos}
def joinD : Str → List D → Option Str
  | out, [] => if out.length ≤ lim then some out else none
  | out, .str y :: ds => if (out ++ y).length ≤ lim then joinD (out ++ y) ds else none
  | _, _ => none
/-- the parts of a text, from the left -/
def PJ (X : Cx) (es : List Expr) (xs : AX) : Prop :=
  ∀ (out : Str) (pins : List (Addr × Obj)) (s : Shared) (σ : St) (H : Hp) (Q : VK), Inv X pins σ H s →
    (∃ M O env ds z, ER X.K M O env σ H ∧ xs env = some ds ∧ joinD out ds = some z ∧ ∀ H', Same H H' → Q (.str z) H') →
    wpAny (model X.prog X.w) X.A (joinParts out (evalEach es X.env)) (EP X pins σ Q) X.xe s
def fJoin (ds : List D) : Option D := (joinD Str.empty ds).map .str
end
end FW

set_option linter.all false
set_option Elab.async false
set_option maxRecDepth 100000
namespace TS
open PySem PyProof.Rows
def gal : Bool → Keyed → Array Keyed → Nat → Nat → Nat → StateT SortSt Sem (Option Nat) := sortPriv% PySem.Builtin.gallop
def setG (g : Nat) : StateT SortSt Sem Unit := (sortPriv% PySem.Builtin.setMinGallop) g
def bey (L : Bool) (ky : Keyed) (xs : Array Keyed) (b i : Nat) : StateT SortSt Sem (Option Bool) := do
  let z ← elem' xs (b + i)
  if L then lt' z ky else return (← lt' ky z).map (!·)
section
variable {prog : Program} {w : World} {A : Around} {E : Value → Shared → Prop} {s : Shared}
def IntK (p : Keyed) : Prop := ∃ n t, p.1 = .int n t
def B (L : Bool) (k : Int) (xs : Array Keyed) (b i : Nat) : Bool := if L then decide (K xs (b + i) < k) else decide (K xs (b + i) ≤ k)
end
end TS

set_option linter.all false
set_option Elab.async false
set_option maxRecDepth 100000
set_option maxHeartbeats 1000000
namespace TS
open PySem PyProof.Rows
def mlo : Array Keyed → Array Keyed → StateT SortSt Sem (Array Keyed) := sortPriv% PySem.Builtin.mergeLo
/-! ## two rows become one -/
def kk (x : Keyed) : Int := numOf x.1
def Le (x y : Keyed) : Prop := kk x ≤ kk y
structure MI (a b o : Array Keyed) (p q : Nat) : Prop where
  pm : (o.toList ++ (a.toList.drop p ++ b.toList.drop q)).Perm (a.toList ++ b.toList)
  so : o.toList.Pairwise Le
  cr : ∀ x ∈ o.toList, ∀ y ∈ a.toList.drop p ++ b.toList.drop q, Le x y
def Good (a b r : Array Keyed) : Prop := r.toList.Perm (a.toList ++ b.toList) ∧ r.toList.Pairwise Le
section
variable {a b o : Array Keyed} {p q k : Nat}
theorem Le.trans {x y z : Keyed} (h1 : Le x y) (h2 : Le y z) : Le x z := Int.le_trans h1 h2
theorem pw_drop {xs : List Keyed} (h : xs.Pairwise Le) (i : Nat) : (xs.drop i).Pairwise Le := h.sublist (List.drop_sublist i xs)
theorem MI.len (m : MI a b o p q) (hp : p ≤ a.size) (hq : q ≤ b.size) : o.size + (a.size - p) + (b.size - q) = a.size + b.size := by
  have := m.pm.length_eq
  simp at this
  omega
theorem ext_list {xs : Array Keyed} {i j : Nat} : (xs.extract i j).toList = (xs.toList.drop i).take (j - i) := by
  rw [Array.toList_extract, List.extract_eq_take_drop]
theorem ext_all {xs : Array Keyed} {i : Nat} : (xs.extract i xs.size).toList = xs.toList.drop i := by
  rw [ext_list]
  exact List.take_of_length_le (by simp)
theorem MI.fin (m : MI a b o p q) (sa : a.toList.Pairwise Le) (sb : b.toList.Pairwise Le) (h : a.size ≤ p ∨ b.size ≤ q) : Good a b (o ++ a.extract p a.size ++ b.extract q b.size) := by
  refine ⟨?_, ?_⟩
  · rw [Array.toList_append, Array.toList_append, ext_all, ext_all, List.append_assoc]
    exact m.pm
  · rw [Array.toList_append, Array.toList_append, ext_all, ext_all, List.append_assoc, List.pairwise_append]
    refine ⟨m.so, ?_, m.cr⟩
    rcases h with h | h
    · rw [List.drop_of_length_le (by simpa using h)]
      exact pw_drop sb q
    · rw [List.drop_of_length_le (l := b.toList) (by simpa using h), List.append_nil]
      exact pw_drop sa p
end
section
variable {prog : Program} {w : World} {A : Around} {E : Value → Shared → Prop} {s : Shared} {a b : Array Keyed}
abbrev wG (st : SortSt) (g : Nat) : SortSt := SortSt.mk' (kindOf st) (arrOf st) (pendingOf st) g (failedOf st)
end
end TS

set_option linter.all false
set_option Elab.async false
set_option maxRecDepth 100000
set_option maxHeartbeats 1000000
namespace TS
open PySem PyProof.Rows
def mhi : Array Keyed → Array Keyed → StateT SortSt Sem (Array Keyed) := sortPriv% PySem.Builtin.mergeHi
structure MH (a b o : Array Keyed) (p q : Nat) : Prop where
  pm : ((a.toList.take p ++ b.toList.take q) ++ o.toList.reverse).Perm (a.toList ++ b.toList)
  so : o.toList.reverse.Pairwise Le
  cr : ∀ x ∈ a.toList.take p ++ b.toList.take q, ∀ y ∈ o.toList, Le x y
section
variable {a b o : Array Keyed} {p q k : Nat}
theorem pw_take {xs : List Keyed} (h : xs.Pairwise Le) (i : Nat) : (xs.take i).Pairwise Le := h.sublist (List.take_sublist i xs)
theorem MH.len (m : MH a b o p q) (hp : p ≤ a.size) (hq : q ≤ b.size) : o.size + p + q = a.size + b.size := by
  have := m.pm.length_eq
  simp at this
  omega
theorem ext_take {xs : Array Keyed} {i : Nat} : (xs.extract 0 i).toList = xs.toList.take i := by
  rw [ext_list]; simp
theorem MH.fin (m : MH a b o p q) (sa : a.toList.Pairwise Le) (sb : b.toList.Pairwise Le) (h : p = 0 ∨ q = 0) : Good a b (a.extract 0 p ++ b.extract 0 q ++ o.reverse) := by
  refine ⟨?_, ?_⟩
  · rw [Array.toList_append, Array.toList_append, ext_take, ext_take, Array.toList_reverse]
    exact m.pm
  · rw [Array.toList_append, Array.toList_append, ext_take, ext_take, Array.toList_reverse, List.pairwise_append]
    refine ⟨?_, m.so, fun x hx y hy => m.cr x hx y (List.mem_reverse.mp hy)⟩
    rcases h with h | h
    · rw [h, List.take_zero, List.nil_append]
      exact pw_take sb q
    · rw [h, List.take_zero, List.append_nil]
      exact pw_take sa p
end
section
variable {prog : Program} {w : World} {A : Around} {E : Value → Shared → Prop} {s : Shared} {a b : Array Keyed}
end
end TS

set_option linter.all false
set_option Elab.async false
set_option maxRecDepth 100000
set_option maxHeartbeats 1000000
namespace TS
open PySem PyProof.Rows
structure TB (a₀ : Array Keyed) (st : SortSt) : Prop where
  perm : (arrOf st).Perm a₀
  kind : kindOf st = oneType'
  failed : failedOf st = none
theorem TB.size {a₀ : Array Keyed} {st : SortSt} (h : TB a₀ st) : (arrOf st).size = a₀.size := h.perm.size_eq
theorem TB.ints {a₀ : Array Keyed} {st : SortSt} (h : TB a₀ st) (h0 : IntKeys a₀) : IntKeys (arrOf st) := fun p hp => h0 p ((Array.perm_iff_toList_perm.mp h.perm).mem_iff.mp hp)
def Sg (xs : Array Keyed) (lo m : Nat) : Prop := ∀ i j, lo ≤ i → i ≤ j → j < lo + m → K xs i ≤ K xs j
def NI (xs : Array Keyed) (lo m : Nat) : Prop := ∀ i j, lo ≤ i → i ≤ j → j < lo + m → K xs j ≤ K xs i
def Fr (xs ys : Array Keyed) (lo hi : Nat) : Prop := ∀ i : Nat, (i < lo ∨ hi ≤ i) → ys[i]? = xs[i]?
theorem Sg.more {xs : Array Keyed} {lo x : Nat} (h : Sg xs lo x) (hx : 1 ≤ x) (hl : K xs (lo + x - 1) ≤ K xs (lo + x)) : Sg xs lo (x + 1) := by
  intro i j h1 h2 h3
  by_cases hj : j < lo + x
  · exact h i j h1 h2 hj
  · have e : j = lo + x := by omega
    subst e
    by_cases hi : i = lo + x
    · subst hi; exact Int.le_refl _
    · exact Int.le_trans (h i (lo + x - 1) h1 (by omega) (by omega)) hl
theorem NI.more {xs : Array Keyed} {lo x : Nat} (h : NI xs lo x) (hx : 1 ≤ x) (hl : K xs (lo + x) ≤ K xs (lo + x - 1)) : NI xs lo (x + 1) := by
  intro i j h1 h2 h3
  by_cases hj : j < lo + x
  · exact h i j h1 h2 hj
  · have e : j = lo + x := by omega
    subst e
    by_cases hi : i = lo + x
    · subst hi; exact Int.le_refl _
    · exact Int.le_trans hl (h i (lo + x - 1) h1 (by omega) (by omega))
section
variable {prog : Program} {w : World} {A : Around} {E : Value → Shared → Prop} {s : Shared} {a₀ : Array Keyed}
end
end TS

set_option linter.all false
set_option Elab.async false
set_option maxRecDepth 100000
set_option maxHeartbeats 1000000
namespace TS
open PySem PyProof.Rows
def back (xs : Array Keyed) (s : Nat) (l : List Keyed) : Array Keyed := l.zipIdx.foldl (fun a (p, j) => a.setIfInBounds (s + j) p) xs
/-! runs -/
def Runs (xs : Array Keyed) : Nat → List (Nat × Nat × Nat) → Nat → Prop
  | lo, [], hi => lo = hi
  | lo, r :: rs, hi => r.1 = lo ∧ 1 ≤ r.2.1 ∧ Sg xs lo r.2.1 ∧ Runs xs (lo + r.2.1) rs hi
section
variable {xs ys : Array Keyed}
theorem Runs.le : ∀ {rs : List (Nat × Nat × Nat)} {lo hi : Nat}, Runs xs lo rs hi → lo + rs.length ≤ hi
  | [], lo, hi, h => by have : lo = hi := h; simp [this]
  | r :: rs, lo, hi, h => by
    have := Runs.le h.2.2.2
    have := h.2.1
    simp only [List.length_cons]
    omega
theorem Runs.append : ∀ {rs qs : List (Nat × Nat × Nat)} {lo hi : Nat}, Runs xs lo (rs ++ qs) hi ↔ ∃ mid, Runs xs lo rs mid ∧ Runs xs mid qs hi
  | [], qs, lo, hi => ⟨fun h => ⟨lo, rfl, h⟩, fun ⟨mid, h1, h2⟩ => by have e : lo = mid := h1; subst e; exact h2⟩
  | r :: rs, qs, lo, hi => by
    simp only [List.cons_append, Runs]
    constructor
    · rintro ⟨h1, h2, h3, h4⟩
      obtain ⟨mid, h5, h6⟩ := Runs.append.mp h4
      exact ⟨mid, ⟨h1, h2, h3, h5⟩, h6⟩
    · rintro ⟨mid, ⟨h1, h2, h3, h4⟩, h5⟩
      exact ⟨h1, h2, h3, Runs.append.mpr ⟨mid, h4, h5⟩⟩
theorem Runs.same : ∀ {rs : List (Nat × Nat × Nat)} {lo hi : Nat}, Runs xs lo rs hi → (∀ i : Nat, lo ≤ i → i < hi → ys[i]? = xs[i]?) → Runs ys lo rs hi
  | [], _, _, h, _ => h
  | r :: rs, lo, hi, h, e => by
    obtain ⟨h1, h2, h3, h4⟩ := h
    have hle := h4.le
    refine ⟨h1, h2, fun i j a b c => ?_, h4.same fun i a b => e i (by omega) b⟩
    rw [K_congr (e i a (by omega)), K_congr (e j (by omega) (by omega))]
    exact h3 i j a b c
end
section
variable {prog : Program} {w : World} {A : Around} {E : Value → Shared → Prop} {s : Shared} {a₀ : Array Keyed}
end
end TS

set_option linter.all false
set_option Elab.async false
set_option maxRecDepth 100000
set_option maxHeartbeats 1000000
namespace TS
open PySem PyProof.Rows
section
variable {prog : Program} {w : World} {A : Around} {E : Value → Shared → Prop} {s : Shared} {a₀ : Array Keyed}
theorem Sg.fr {xs ys : Array Keyed} {lo m : Nat} (h : Sg xs lo m) (f : Fr xs ys 0 lo) : Sg ys lo m := by
  intro i j a b c
  rw [K_congr (f i (by omega)), K_congr (f j (by omega))]
  exact h i j a b c
theorem Runs.map {xs : Array Keyed} (f : Nat × Nat × Nat → Nat × Nat × Nat) (hf : ∀ x, (f x).1 = x.1 ∧ (f x).2.1 = x.2.1) : ∀ {rs : List (Nat × Nat × Nat)} {lo hi : Nat} (i : Nat), Runs xs lo rs hi → Runs xs lo (rs.modify i f) hi
  | [], _, _, i, h => by simpa using h
  | r :: rs, lo, hi, 0, h => by
    obtain ⟨h1, h2, h3, h4⟩ := h
    simp only [List.modify_zero_cons, Runs]
    rw [(hf r).1, (hf r).2]
    exact ⟨h1, h2, h3, h4⟩
  | r :: rs, lo, hi, i + 1, h => by
    obtain ⟨h1, h2, h3, h4⟩ := h
    simp only [List.modify_succ_cons, Runs]
    exact ⟨h1, h2, h3, Runs.map f hf i h4⟩
end
end TS

set_option linter.all false
set_option Elab.async false
set_option maxRecDepth 100000
set_option maxHeartbeats 1000000
namespace TS
open PySem PyProof.Rows
section
variable {prog : Program} {w : World} {A : Around} {E : Value → Shared → Prop} {s : Shared}
end
end TS

set_option linter.all false
set_option Elab.async false
set_option maxRecDepth 100000
namespace FW
open PySem L2
/-! ## tests of in, is None -/
section
variable {X : Cx} {a b : Expr} {pos : Pos} {x y : BX}
end
/-! ## what is locked, what is given back -/
/-- all but what stands at a is the same; at a the same can be read -/
structure Lk (a : Addr) (H H' : Hp) : Prop where
  ne : ∀ b, b ≠ a → H' b = H b
  rl : ∀ vs, Rd H a (.lst vs) → Rd H' a (.lst vs)
  rt : ∀ vs, Rd H a (.tup vs) → Rd H' a (.tup vs)
  rd : ∀ ws, Rd H a (.dK ws) → Rd H' a (.dK ws)
  ri : ∀ C dx fs, H a = some (.ins C dx fs) → H' a = some (.ins C dx fs)
section
variable {K : PySem.W.Frag} {H H' : Hp} {a : Addr}
theorem Lk.lst (e : Lk a H H') {b : Addr} {vs : List V} (h : Rd H b (.lst vs)) : Rd H' b (.lst vs) := by
  by_cases z : b = a
  · subst z; exact e.rl vs h
  · unfold Rd at h ⊢; rw [e.ne b z]; exact h
theorem Lk.tup (e : Lk a H H') {b : Addr} {vs : List V} (h : Rd H b (.tup vs)) : Rd H' b (.tup vs) := by
  by_cases z : b = a
  · subst z; exact e.rt vs h
  · unfold Rd at h ⊢; rw [e.ne b z]; exact h
theorem Lk.dic (e : Lk a H H') {b : Addr} {vs : List (Key × V)} (h : Rd H b (.dK vs)) : Rd H' b (.dK vs) := by
  by_cases z : b = a
  · subst z; exact e.rd vs h
  · unfold Rd at h ⊢; rw [e.ne b z]; exact h
mutual
theorem DV.lk (e : Lk a H H') : ∀ (d : D) (v : V), DV K H d v → DV K H' d v
  | .non, _, h => by simpa only [DV] using h
  | .bl _, _, h => by simpa only [DV] using h
  | .int _, _, h => by simpa only [DV] using h
  | .str _, _, h => by simpa only [DV] using h
  | .tup ds, v, h => by
    simp only [DV] at h ⊢
    obtain ⟨b, vs, e1, e2, e3⟩ := h
    exact ⟨b, vs, e1, e2.elim (fun z => .inl (e.tup z)) .inr, DVs.lk e ds vs e3⟩
  | .lst ds, v, h => by
    simp only [DV] at h ⊢
    obtain ⟨b, vs, e1, e2, e3⟩ := h
    exact ⟨b, vs, e1, e2.elim (fun z => .inl (e.lst z)) .inr, DVs.lk e ds vs e3⟩
  | .dic ds, v, h => by
    simp only [DV] at h ⊢
    obtain ⟨b, vs, e1, e2, e3⟩ := h
    exact ⟨b, vs, e1, e.dic e2, DVk.lk e ds vs e3⟩
  | .obj C ds, v, h => by
    simp only [DV] at h ⊢
    obtain ⟨b, dx, fs, e1, e2, e3⟩ := h
    refine ⟨b, dx, fs, e1, ?_, DVk.lk e ds _ e3⟩
    by_cases z : b = a
    · subst z; exact e.ri _ _ _ e2
    · rw [e.ne b z]; exact e2
theorem DVs.lk (e : Lk a H H') : ∀ (ds : List D) (vs : List V), DVs K H ds vs → DVs K H' ds vs
  | [], _, h => by simpa only [DVs] using h
  | d :: ds, _, h => by
    simp only [DVs] at h ⊢
    obtain ⟨v, r, e1, e2, e3⟩ := h
    exact ⟨v, r, e1, DV.lk e d v e2, DVs.lk e ds r e3⟩
theorem DVk.lk (e : Lk a H H') : ∀ (ds : List (Key × D)) (vs : List (Key × V)), DVk K H ds vs → DVk K H' ds vs
  | [], _, h => by simpa only [DVk] using h
  | kd :: ds, _, h => by
    simp only [DVk] at h ⊢
    obtain ⟨v, r, e1, e2, e3⟩ := h
    exact ⟨v, r, e1, DVp.lk e kd v e2, DVk.lk e ds r e3⟩
theorem DVp.lk (e : Lk a H H') : ∀ (kd : Key × D) (v : V), DVp K H kd v → DVp K H' kd v
  | (_, d), v, h => by
    simp only [DVp] at h ⊢
    exact DV.lk e d v h
end
theorem Cont.lk {o : Option HO} (e : Lk a H H') : ∀ {d : D}, Cont K H o d → Cont K H' o d
  | .lst ds, h => by obtain ⟨vs, h1, h2⟩ := h; exact ⟨vs, h1, h2.lk e⟩
  | .dic ds, h => by obtain ⟨vs, h1, h2⟩ := h; exact ⟨vs, h1, h2.lk e⟩
  | .obj C ds, h => by obtain ⟨dx, fs, h1, h2⟩ := h; exact ⟨dx, fs, h1, h2.lk e⟩
  | .non, h => h.elim
  | .bl _, h => h.elim
  | .int _, h => h.elim
  | .str _, h => h.elim
  | .tup _, h => h.elim
theorem Lk.off (e : Lk a H H') {O : List Addr} (na : a ∉ O) : Lk a (off H O) (off H' O) := by
  have at_a : ∀ G : Hp, FW.off G O a = G a := fun G => by unfold FW.off; rw [if_neg na]
  refine ⟨fun b hb => by unfold FW.off; rw [e.ne b hb], fun vs h => ?_, fun vs h => ?_, fun vs h => ?_, fun C dx fs h => by rw [at_a] at h ⊢; exact e.ri _ _ _ h⟩
  · unfold Rd at h ⊢; rw [at_a] at h ⊢; exact e.rl vs h
  · unfold Rd at h ⊢; rw [at_a] at h ⊢; exact e.rt vs h
  · unfold Rd at h ⊢; rw [at_a] at h ⊢; exact e.rd vs h
theorem Lk.lock {od : Obj} {ws0 : List (Key × V)} (h : H a = some (.dK ws0)) : Lk a H (upd H a (.frz od (.dK ws0))) := by
  refine ⟨fun b hb => upd_ne hb, fun vs r => ?_, fun vs r => ?_, fun vs r => ?_, fun C dx fs r => by rw [h] at r; cases r⟩
  · rcases r with r | ⟨o, r⟩ <;> (rw [h] at r; cases r)
  · rcases r with r | ⟨o, r⟩ <;> (rw [h] at r; cases r)
  · rcases r with r | ⟨o, r⟩
    · rw [h] at r; cases r; exact .inr ⟨od, upd_same⟩
    · rw [h] at r; cases r
theorem Lk.unlock {od : Obj} {ws0 : List (Key × V)} (h : H a = some (.frz od (.dK ws0))) : Lk a H (upd H a (.dK ws0)) := by
  refine ⟨fun b hb => upd_ne hb, fun vs r => ?_, fun vs r => ?_, fun vs r => ?_, fun C dx fs r => by rw [h] at r; cases r⟩
  · rcases r with r | ⟨o, r⟩ <;> (rw [h] at r; cases r)
  · rcases r with r | ⟨o, r⟩ <;> (rw [h] at r; cases r)
  · rcases r with r | ⟨o, r⟩
    · rw [h] at r; cases r
    · rw [h] at r; cases r; exact .inl upd_same
theorem SlOk.lk {M : Option Addr} {O : List Addr} {x : Option (Option V)} (e : Lk a H H') (na : a ∉ O) : ∀ {s : Sl}, SlOk K M O H x s → SlOk K M O H' x s
  | .un, _ => trivial
  | .pu d, h => by obtain ⟨v, h1, h2⟩ := h; exact ⟨v, h1, h2.lk (e.off na)⟩
  | .mu d, h => by
    obtain ⟨p, h1, h2, h3⟩ := h
    refine ⟨p, h1, h2, ?_⟩
    rw [e.ne p (fun z => na (z ▸ h2))]
    exact h3.lk (e.off na)
  | .bo d, h => by
    obtain ⟨p, h1, h0, h2, h3⟩ := h
    refine ⟨p, h1, h0, h2, ?_⟩
    rw [e.ne p (fun z => na (z ▸ h2))]
    exact h3.lk (e.off na)
theorem ER.lk {M : Option Addr} {O : List Addr} {env : En} {σ : St} (r : ER K M O env σ H) (e : Lk a H H') (na : a ∉ O) : ER K M O env σ H' :=
  ⟨fun i s h => (r.sl i s h).lk e na, r.ow, fun p hp z => r.dom p hp (by rw [e.ne p (fun w => na (w ▸ hp))] at z; exact z)⟩
theorem SRo.lk {M : Option Addr} {B O : List Addr} {H0 H0' : Hp} {G G' : Hp → Prop} {env : En} {σ : St} (r : SRo K M B H0 G O env σ H) (e : Lk a H H') (na : a ∉ O) (h0 : ∀ b, b ≠ a → H0' b = H0 b) (h1 : ∀ o, H0' a = some o → H' a = some o) (gh : G' (off H' O)) : SRo K M B H0' G' O env σ H' := by
  have nB : a ∉ B := fun z => na (r.sub a z)
  refine ⟨r.er.lk e na, r.sub, fun p hp => ?_, fun p hp => ?_, fun b o hm hb => ?_, gh, fun i d p hi hp => ?_, r.mb, r.len⟩
  · rw [h0 p (fun z => na (z ▸ hp))]; exact r.new p hp
  · rw [h0 p (fun z => nB (z ▸ hp))]; exact r.old p hp
  · by_cases z : b = a
    · subst z; exact h1 o hb
    · rw [e.ne b z]; rw [h0 b z] at hb; exact r.same b o hm hb
  · obtain ⟨q, g1, g2, _⟩ := r.er.sl i _ hi
    rw [hp] at g1
    cases g1
    rw [h0 p (fun z => na (z ▸ g2))]
    exact r.wr i d p hi hp
theorem RVok.lk {O : List Addr} {H0 H0' : Hp} {v : V} {r : RV} (h : RVok K O H0 H v r) (e : Lk a H H') (na : a ∉ O) (h0 : ∀ b, b ≠ a → H0' b = H0 b) (nc : ∀ d, ¬ Cont K (FW.off H (a :: O)) (H a) d) : RVok K O H0' H' v r := by
  refine ⟨h.1.lk (e.off na), fun z => ?_⟩
  obtain ⟨p, h1, h2, h3⟩ := h.2 z
  have np : p ≠ a := fun w => by subst w; exact nc _ h3
  refine ⟨p, h1, by rw [h0 p np]; exact h2, ?_⟩
  rw [e.ne p np]
  have na' : a ∉ p :: O := fun w => by
    rcases List.mem_cons.mp w with w | w
    · exact np w.symm
    · exact na w
  exact h3.lk (e.off na')
theorem RtOk.lk {M : Option Addr} {B : List Addr} {H0 H0' : Hp} {G G' : Hp → Prop} {en : En} {v : V} {r : RV} (h : RtOk K M B H0 G en v H r) (e : Lk a H H') (na : a ∉ B) (nm : M ≠ some a) (h0 : ∀ b, b ≠ a → H0' b = H0 b) (h1 : ∀ o, H0' a = some o → H' a = some o) (nc : ∀ d, ¬ Cont K (FW.off H (a :: B)) (H a) d) (gh : G' (off H' B)) : RtOk K M B H0' G' en v H' r := by
  refine ⟨h.1.lk e na h0 nc, fun b o hm hb => ?_, gh, fun p i d hM hi => ?_⟩
  · by_cases z : b = a
    · subst z; exact h1 o hb
    · rw [e.ne b z]; rw [h0 b z] at hb; exact h.2.1 b o hm hb
  · have np : p ≠ a := fun w => by subst w; exact nm hM
    rw [e.ne p np]
    exact (h.2.2.2 p i d hM hi).lk (e.off na)
end
/-! ## for, once more: the loop alone -/
section
variable {X : Cx} {pos : Pos}
theorem for_core {M : Option Addr} {B O : List Addr} {H0 H : Hp} {G : Hp → Prop} {env : En} {σ : St} {n : Nat} {out : Out} {DD : Ends} {wi : TI} {g : TG} {ds : List D} {gd : D → En → Option En} {b : SX} (u : Up G) (R : SRo X.K M B H0 G O env σ H)
    (pw : ∀ R' : It → Hp → Prop, (∀ J H1 Gi, Same H H1 → Up Gi → Gi (off H1 O) → ItOk X.K J ds Gi → R' J H1) → wi σ H R') (ht : TGt X.K g gd) (e : loopF gd b n ds env = some out) (k : OutOk X.K M B H0 G DD out) : tFor wi g (tS X.K b) DD σ H := by
  refine pw _ fun J H1 Gi s1 ui g1 it => ?_
  let G' : Hp → Prop := fun Ho => G Ho ∧ Gi Ho
  have u' : Up G' := fun a b s z => ⟨u a b s z.1, ui a b s z.2⟩
  have R1 := R.mono u s1
  have R1' : SRo X.K M B H0 G' O env σ H1 := ⟨R1.er, R1.sub, R1.new, R1.old, R1.same, ⟨R1.gh, g1⟩, R1.wr, R1.mb, R1.len⟩
  refine ⟨fun i m σ H => m = ds.length - i ∧ i ≤ ds.length ∧ ∃ env, SR X.K M B H0 G' env σ H ∧ loopF gd b n (ds.drop i) env = some out, ⟨ds.length, by simp, Nat.zero_le _, env, ⟨O, R1'⟩, by simpa using e⟩, ?_⟩
  rintro i m σ H ⟨rfl, hi, env, ⟨O, R⟩, e⟩
  by_cases hlt : i < ds.length
  · have hd : ds.drop i = ds[i] :: ds.drop (i + 1) := List.drop_eq_getElem_cons hlt
    rw [hd, loopF] at e
    cases q1 : gd ds[i] env with
    | none => rw [q1] at e; cases e
    | some e1 =>
      rw [q1] at e
      simp only [Option.bind_some] at e
      cases q2 : b n e1 with
      | none => rw [q2] at e; cases e
      | some o =>
        rw [q2] at e
        simp only [Option.bind_some] at e
        refine .inr ⟨it.go i H O R.er.dom R.gh.2 hlt, fun σ' H' => ∃ env, SR X.K M B H0 G' env σ' H' ∧ loopF gd b n (ds.drop (i + 1)) env = some out, fun σ' H' z => ⟨ds.length - (i + 1), by omega, rfl, hlt, z⟩, fun x H' y => ?_⟩
        obtain ⟨d, h1, h2, h3⟩ := it.yld i H O x H' R.er.dom R.gh.2 hlt y
        have h1' : ds[i] = d := by
          rw [List.getElem?_eq_getElem hlt] at h1
          exact Option.some.inj h1
        rw [h1'] at q1
        refine ht M B H0 G' O env σ H' x d e1 _ u' (R.mono u' h2) h3 q1 fun σ2 H2 R2 => ⟨M, B, H0, G', e1, n, o, u', R2, q2, ?_⟩
        cases o with
        | nx e2 => exact fun σ' H' R' => ⟨e2, R', e⟩
        | ct e2 => exact fun σ' H' R' => ⟨e2, R', e⟩
        | bk e2 => cases e; exact fun σ' H' R' => k σ' H' (R'.weak fun _ z => z.1)
        | rt r e2 => cases e; exact fun v H' R' => k v H' (R'.weak fun _ z => z.1)
  · have e0 : i = ds.length := by omega
    subst e0
    rw [List.drop_length, loopF] at e
    cases e
    exact .inl ⟨it.stop H O R.er.dom R.gh.2, k σ H ⟨O, R.weak fun _ z => z.1⟩⟩
/-! tuples -/
theorem it_tup {K : PySem.W.Frag} {a : Addr} {vs : List V} {ds : List D} : ItOk K (Itt K a) ds (fun Ho => SqT K Ho a vs ∧ DVs K Ho ds vs) := by
  refine ⟨fun i H O _ g hi => ?_, fun H O _ g => ?_, fun i H O x H' _ g hi y => ?_⟩
  · have hl := g.2.length
    exact ⟨vs, vs[i]'(by omega), sqT_mono off_same g.1, by simp⟩
  · exact ⟨vs, sqT_mono off_same g.1, by rw [g.2.length]; exact Nat.le_refl _⟩
  · obtain ⟨rfl, y⟩ := y
    have y1 := y vs (sqT_mono off_same g.1)
    obtain ⟨v, h1, h2⟩ := g.2.get (List.getElem?_eq_getElem hi)
    rw [y1] at h1
    cases h1
    exact ⟨_, List.getElem?_eq_getElem hi, Same.refl _, h2⟩
def srcT (x : EX) : AX := fun env => (x env).bind fun r => match r.d with
  | .tup ds => some ds
  | _ => none
theorem pix_tup {K : PySem.W.Frag} {x : EX} : PIx K (iTup K (tE K x)) (srcT x) := by
  intro M O env σ H ds R er e k
  unfold srcT at e
  cases q : x env with
  | none => rw [q] at e; cases e
  | some r =>
    rw [q] at e
    simp only [Option.bind_some] at e
    split at e
    · rename_i ds' hd
      cases e
      refine ⟨M, O, env, r, er, q, fun v H1 s1 ok => ?_⟩
      have h := ok.1
      rw [hd] at h
      simp only [DV] at h
      obtain ⟨a, vs, rfl, h1, h2⟩ := h
      exact ⟨a, rfl, ⟨vs, sqT_mono off_same h1⟩, k _ H1 _ s1 (fun A B s z => ⟨sqT_mono s z.1, z.2.mono s⟩) ⟨h1, h2⟩ it_tup⟩
    · cases e
/-! ranges -/
def rngD (n : Nat) : List D := (List.range n).map fun i : Nat => .int (i : Int)
theorem rngI_ex : ∃ f : Int → Option (List D), ∀ n, f n = if -(2 ^ 62) ≤ n ∧ n < 2 ^ 62 then some (rngD n.toNat) else none := ⟨_, fun _ => rfl⟩
/-- chosen, so that nobody unfolds it -/
noncomputable def rngI : Int → Option (List D) := Classical.choose rngI_ex
theorem rngI_eq (n : Int) : rngI n = if -(2 ^ 62) ≤ n ∧ n < 2 ^ 62 then some (rngD n.toNat) else none := Classical.choose_spec rngI_ex n
theorem rngI_some {n : Int} {ds : List D} (h : rngI n = some ds) : -(2 ^ 62) ≤ n ∧ n < 2 ^ 62 ∧ ds = rngD n.toNat := by
  rw [rngI_eq] at h
  split at h
  · rename_i hn; cases h; exact ⟨hn.1, hn.2, rfl⟩
  · cases h
theorem rngI_of {n : Nat} (h : n < 1000000000) : rngI (n : Int) = some (rngD n) := by
  rw [rngI_eq, if_pos ⟨by omega, by omega⟩, Int.toNat_natCast]
noncomputable def srcR (xs : AX) : AX := fun env => (xs env).bind fun ds => match ds with
  | [.int n] => rngI n
  | _ => none
theorem rngD_len {n : Nat} : (rngD n).length = n := by simp [rngD]
theorem it_range {K : PySem.W.Frag} {n : Nat} : ItOk K (Itr 0 n) (rngD n) (fun _ => True) := by
  refine ⟨fun i H O _ g hi => by rw [rngD_len] at hi; exact hi, fun H O _ g => by rw [rngD_len]; exact Nat.le_refl _, fun i H O x H' _ g hi y => ?_⟩
  rw [rngD_len] at hi
  obtain ⟨rfl, rfl⟩ := y
  refine ⟨.int i, ?_, Same.refl _, by simp [DV]⟩
  simp [rngD, hi]
theorem pix_range {K : PySem.W.Frag} {xs : AX} : PIx K (iRng1 (tBs K xs)) (srcR xs) := by
  intro M O env σ H ds R er e k
  unfold srcR at e
  cases q : xs env with
  | none => rw [q] at e; cases e
  | some r =>
    rw [q] at e
    simp only [Option.bind_some] at e
    split at e
    · rename_i n
      obtain ⟨h1, h2, rfl⟩ := rngI_some e
      refine ⟨M, O, env, _, er, q, fun vs H1 s1 ok => ?_⟩
      obtain ⟨v, rfl, b⟩ := P1 ok
      rw [b.int]
      exact ⟨n, rfl, h1, h2, k _ H1 _ s1 (fun _ _ _ z => z) trivial it_range⟩
    · cases e
/-! keys -/
def kD : Key → D
  | .inl i => .int i
  | .inr x => .str x
def keysD (kvs : List (Key × D)) : List D := kvs.map fun kv => kD kv.1
theorem DVk.keys {K : PySem.W.Frag} {H : Hp} : ∀ {ds : List (Key × D)} {ws : List (Key × V)}, DVk K H ds ws → ws.map (·.1) = ds.map (·.1)
  | [], _, h => by simp only [DVk] at h; simp [h]
  | d :: ds, _, h => by
    simp only [DVk] at h
    obtain ⟨v, r, rfl, _, e3⟩ := h
    simp [DVk.keys e3]
theorem kD_dv {K : PySem.W.Frag} {H : Hp} (k : Key) : DV K H (kD k) (kV k) := by
  cases k <;> simp [kD, kV, DV]
theorem it_keys {K : PySem.W.Frag} {a : Addr} {o : Obj} {ws : List (Key × V)} {kvs : List (Key × D)} (hk : ws.map (·.1) = kvs.map (·.1)) : ItOk K (Itk a o ws) (keysD kvs) (fun Ho => Ho a = some (.frz o (.dK ws))) := by
  have hl : ws.length = kvs.length := by have := congrArg List.length hk; simpa using this
  have hl2 : (keysD kvs).length = ws.length := by simp [keysD, hl]
  refine ⟨fun i H O _ g hi => ⟨off_same _ _ g, by omega⟩, fun H O _ g => ⟨off_same _ _ g, by omega⟩, fun i H O x H' _ g hi y => ?_⟩
  obtain ⟨rfl, ky, v, h1, rfl⟩ := y
  refine ⟨kD ky, ?_, Same.refl _, kD_dv ky⟩
  have h2 : (ws.map (·.1))[i]? = some ky := by rw [List.getElem?_map, h1]; rfl
  rw [hk, List.getElem?_map] at h2
  unfold keysD
  rw [List.getElem?_map]
  cases q : kvs[i]? with
  | none => rw [q] at h2; cases h2
  | some z => rw [q] at h2; cases h2; rfl
def itemsD : D → Option (List D)
  | .lst ds => some ds
  | .tup ds => some ds
  | .dic kvs => some (keysD kvs)
  | _ => none
/-- for .. in a name that is not owned -/
def sForV (i : Nat) (gd : D → En → Option En) (b : SX) : SX := fun n env => match env[i]? with
  | some (.pu d) => (itemsD d).bind fun ds => loopF gd b n ds env
  | _ => none
theorem keys_pw {K : PySem.W.Frag} {M : Option Addr} {O : List Addr} {env : En} {σ : St} {H : Hp} {i : Nat} {a : Addr} {o : Obj} {ws : List (Key × V)} {kvs : List (Key × D)} (hv : σ[i]? = some (some (.ref a))) (ho : H a = some (.frz o (.dK ws))) (na : a ∉ O) (hk : ws.map (·.1) = kvs.map (·.1)) :
    ∀ R' : It → Hp → Prop, (∀ J H1 Gi, Same H H1 → Up Gi → Gi (off H1 O) → ItOk K J (keysD kvs) Gi → R' J H1) → iKeys (tVar i) σ H R' := by
  intro R' k
  refine ⟨_, hv, a, o, rfl, .inl ⟨ws, ho, k _ H _ (Same.refl H) (fun A B s z => s _ _ z) (off_some.mpr ⟨na, ho⟩) (it_keys hk)⟩⟩
theorem cs_forV {tg : Expr} {i : Nat} {x : Str} {p : Pos} {body : List Stmt} {g : TG} {gd : D → En → Option En} {b : SX} (hp : PassesOwn (model X.prog X.w) X.A X.env X.xe) (hc : X.calm = true) (hv : PE X (.Name x p) (tVar i)) (hg : PG X tg g) (ht : TGt X.K g gd) (hb : PSs X body (tS X.K b))
    (hs : ∀ y, foldedSetIterable (.Name x p) X.env y = pure y := by intro _; rfl) : PS X (.For tg (.Name x p) body [] pos) (tS X.K (sForV i gd b)) := by
  intro pins s σ H DD I hh
  obtain ⟨M, B, H0, G, env, n, out, u, ⟨O, R⟩, e, k⟩ := hh
  unfold sForV at e
  split at e
  · rename_i d hd
    obtain ⟨v, h1, h2⟩ := R.er.sl i _ hd
    unfold itemsD at e
    split at e
    · rename_i ds
      simp only [Option.bind_some] at e
      refine cs_for hp hc (pi_list (ce_var hv)) pix_list hg ht hb hs pins s σ H DD I ⟨M, B, H0, G, env, n, out, u, ⟨O, R⟩, ?_, k⟩
      simp only [sFor, srcL, eVar, hd, Option.bind_some]
      exact e
    · rename_i ds
      simp only [Option.bind_some] at e
      refine cs_for hp hc (pi_tup (ce_var hv)) pix_tup hg ht hb hs pins s σ H DD I ⟨M, B, H0, G, env, n, out, u, ⟨O, R⟩, ?_, k⟩
      simp only [sFor, srcT, eVar, hd, Option.bind_some]
      exact e
    · rename_i kvs
      simp only [Option.bind_some] at e
      simp only [DV] at h2
      obtain ⟨a, ws, rfl, h3, h4⟩ := h2
      have na : a ∉ O := by
        rcases h3 with h3 | ⟨o, h3⟩
        · exact (off_some.mp h3).1
        · exact (off_some.mp h3).1
      rcases h3 with h3 | ⟨o, h3⟩
      · -- it gets locked
        have ha := (off_some.mp h3).2
        refine ps_lock (ps_for hp hc (pi_keys hv) hg hb hs) pins s σ H DD I ⟨a, _, ha, True.intro, fun od => ?_⟩
        let H0' : Hp := fun b => if b = a ∧ H0 a ≠ none then some (.frz od (.dK ws)) else H0 b
        let G' : Hp → Prop := fun Ho => Ho a = some (.frz od (.dK ws)) ∧ G (upd Ho a (.dK ws))
        have h0 : ∀ b, b ≠ a → H0' b = H0 b := fun b hb => by simp [H0', hb]
        have up_off : ∀ {Hx : Hp} {Ox : List Addr} {o : HO}, a ∉ Ox → upd (off Hx Ox) a o = off (upd Hx a o) Ox := fun {Hx Ox o} na => by
          funext b
          by_cases z : b = a
          · subst z; rw [upd_same]; unfold off; rw [if_neg na, upd_same]
          · rw [upd_ne z]; unfold off; rw [upd_ne z]
        have upup : ∀ {Hx : Hp} {o o' : HO}, Hx a = some o → upd (upd Hx a o') a o = Hx := fun {Hx o o'} hx => by
          funext b
          by_cases z : b = a
          · subst z; rw [upd_same, hx]
          · rw [upd_ne z, upd_ne z]
        have nm : M ≠ some a := fun z => na (R.sub a (R.mb a z))
        have nB : a ∉ B := fun z => na (R.sub a z)
        have H0a : ∀ o, H0 a = some o → o = .dK ws := fun o ho => by
          have := R.same a o nm ho
          rw [ha] at this
          cases this
          rfl
        have H0a' : ∀ o, H0' a = some o → o = .frz od (.dK ws) := fun o ho => by
          by_cases z : H0 a = none
          · simp [H0', z] at ho
          · simp [H0', z] at ho; exact ho.symm
        have u' : Up G' := fun A1 A2 s z => ⟨s _ _ z.1, u _ _ (fun b o hb => by
          by_cases w : b = a
          · subst w; rw [upd_same] at hb ⊢; exact hb
          · rw [upd_ne w] at hb ⊢; exact s _ _ hb) z.2⟩
        have R' : SRo X.K M B H0' G' O env σ (upd H a (.frz od (.dK ws))) := R.lk (.lock ha) na h0 (fun o ho => by rw [H0a' o ho, upd_same]) ⟨by rw [← up_off na, upd_same], by rw [up_off na, upup ha]; exact R.gh⟩
        have back : ∀ {e' σ' H'}, SR X.K M B H0' G' e' σ' H' → H' a = some (.frz od (.dK ws)) ∧ SR X.K M B H0 G e' σ' (upd H' a (.dK ws)) := fun {e' σ' H'} ⟨O', r⟩ => by
          have hf := off_some.mp r.gh.1
          refine ⟨hf.2, O', r.lk (.unlock hf.2) hf.1 (fun b hb => (h0 b hb).symm) (fun o ho => by rw [H0a o ho, upd_same]) ?_⟩
          rw [← up_off hf.1]
          exact r.gh.2
        refine for_core u' R' (keys_pw (env := env) (M := M) h1 (by rw [upd_same]) na h4.keys) ht e ?_
        cases out with
        | nx e1 => exact fun σ' H' r => ⟨(back r).1, k _ _ (back r).2⟩
        | bk e1 => exact fun σ' H' r => ⟨(back r).1, k _ _ (back r).2⟩
        | ct e1 => exact fun σ' H' r => ⟨(back r).1, k _ _ (back r).2⟩
        | rt r e1 =>
          intro v' H' ok
          have hf := off_some.mp ok.2.2.1.1
          refine ⟨hf.2, k _ _ (ok.lk (.unlock hf.2) nB nm (fun b hb => (h0 b hb).symm) (fun o ho => by rw [H0a o ho, upd_same]) (fun d hd => ?_) ?_)⟩
          · rw [hf.2] at hd
            cases d with
            | lst _ => obtain ⟨_, z, _⟩ := hd; cases z
            | dic _ => obtain ⟨_, z, _⟩ := hd; cases z
            | obj _ _ => obtain ⟨_, _, z, _⟩ := hd; cases z
            | _ => exact hd.elim
          · rw [← up_off nB]
            exact ok.2.2.1.2
      · have ha := (off_some.mp h3).2
        exact ps_for hp hc (pi_keys hv) hg hb hs pins s σ H DD I (for_core u R (keys_pw (env := env) (M := M) h1 ha na h4.keys) ht e k)
    · cases e
  · cases e
end
end FW

set_option linter.all false
set_option Elab.async false
set_option maxRecDepth 100000
namespace FW
open PySem L2
/-! ## sorting -/
def srt (ns : List Int) : List Int := ns.mergeSort fun a b => decide (a ≤ b)
theorem srt_perm (ns : List Int) : (srt ns).Perm ns := List.mergeSort_perm ns _
theorem srt_le (ns : List Int) : (srt ns).Pairwise (· ≤ ·) := by
  have := List.pairwise_mergeSort (le := fun a b : Int => decide (a ≤ b)) (fun a b c h1 h2 => by simp at *; omega) (fun a b => by simp; omega) ns
  exact this.imp fun h => by simpa using h
def intsD : List D → Option (List Int)
  | [] => some []
  | .int i :: ds => (intsD ds).map (i :: ·)
  | _ => none
theorem intsD_eq : ∀ {ds : List D} {ns : List Int}, intsD ds = some ns → ds = ns.map D.int
  | [], ns, h => by cases h; rfl
  | d :: ds, ns, h => by
    cases d <;> simp only [intsD] at h <;> try cases h
    cases q : intsD ds with
    | none => rw [q] at h; cases h
    | some ms => rw [q] at h; cases h; rw [intsD_eq q]; rfl
@[simp] theorem intsD_map (ns : List Int) : intsD (ns.map D.int) = some ns := by
  induction ns with
  | nil => rfl
  | cons n ns ih => simp [intsD, ih]
theorem DVs.ints {K : PySem.W.Frag} {H : Hp} : ∀ {ns : List Int} {vs : List V}, DVs K H (ns.map D.int) vs → vs = ns.map V.int
  | [], _, h => by simpa [DVs] using h
  | n :: ns, _, h => by
    simp only [List.map_cons, DVs, DV] at h
    obtain ⟨v, r, rfl, rfl, h2⟩ := h
    rw [DVs.ints h2]; rfl
/-! ## calls whose result is new -/
def eFr (f : List D → Option D) (xs : AX) : EX := fun env => (xs env).bind fun ds => (f ds).map fun d => ⟨d, true⟩
section
variable {X : Cx} {e : Expr} {es : List Expr} {nm : Str} {p pos : Pos} {xs : AX} {rr : List V → Hp → VK → Prop} {f : List D → Option D} {id T : String}
abbrev FrSem (K : PySem.W.Frag) (f : List D → Option D) (rr : List V → Hp → VK → Prop) : Prop :=
  ∀ O H ds r vs Q, (∀ p ∈ O, H p ≠ none) → f ds = some r → Paired (fun d v => BR K O H d v) ds vs → (∀ p o, H p = none → Cont K (off H O) (some o) r → Q (.ref p) (upd H p o)) → rr vs H Q
def fList : List D → Option D
  | [.lst ds] => some (.lst ds)
  | [.tup ds] => some (.lst ds)
  | [.dic kvs] => some (.lst (keysD kvs))
  | _ => none
theorem boot_allB : bootBuiltins "all" = some (.builtin "all") := by decide +kernel
/-! dict(d) -/
def fDict : List D → Option D
  | [.dic kvs] => some (.dic kvs)
  | _ => none
/-! sorted(..) -/
def fSorted : List D → Option D
  | [.lst ds] => (intsD ds).map fun ns => .lst ((srt ns).map D.int)
  | [.dic kvs] => (intsD (keysD kvs)).map fun ns => .lst ((srt ns).map D.int)
  | _ => none
/-! all, sum of lists -/
def blsD : List D → Option (List Bool)
  | [] => some []
  | .bl b :: ds => (blsD ds).map (b :: ·)
  | _ => none
theorem blsD_v {K : PySem.W.Frag} {H : Hp} : ∀ {ds : List D} {bs : List Bool} {vs : List V}, blsD ds = some bs → DVs K H ds vs → vs = bs.map V.bl
  | [], bs, vs, h, hv => by cases h; simpa [DVs] using hv
  | d :: ds, bs, vs, h, hv => by
    cases d <;> simp only [blsD] at h <;> try cases h
    cases q : blsD ds with
    | none => rw [q] at h; cases h
    | some ms =>
      rw [q] at h
      cases h
      simp only [DVs, DV] at hv
      obtain ⟨v, r, rfl, rfl, h2⟩ := hv
      rw [blsD_v q h2]; rfl
def fAll0 (bs : List Bool) : Bool := bs.all fun b => b
def fAll : List D → Option D
  | [.lst ds] => (blsD ds).map fun bs => .bl (fAll0 bs)
  | _ => none
def fSum : List D → Option D
  | [.lst ds] => (intsD ds).map fun ns => .int ns.sum
  | _ => none
theorem cb_all (hc : X.calm = true) (hg : Gl X "all") (hm : X.mg "all" = none) (ha : PA X [e] (tBs X.K xs)) (he : starEach [e] X.env = (false, eval e X.env) :: starEach [] X.env := by rfl) : PE X (.Call (.Name "all" p) [e] [] pos) (tB X.K (bn fAll xs)) :=
  cb_callB (cr_all hc) (fun O H ds r vs Q h b k => by
    unfold fAll at h
    split at h
    · rename_i ds'
      cases q1 : blsD ds' with
      | none => rw [q1] at h; cases h
      | some bs =>
        rw [q1] at h
        cases h
        obtain ⟨v, rfl, b1⟩ := P1 b
        obtain ⟨q, ws, rfl, h1, h2⟩ := b1.lst
        rw [blsD_v q1 h2] at h1
        exact ⟨q, bs, rfl, h1, k⟩
    · cases h) (fun ds r h => by
    unfold fAll at h
    split at h
    · rename_i ds'
      cases q1 : blsD ds' with
      | none => rw [q1] at h; cases h
      | some bs => rw [q1] at h; cases h; rfl
    · cases h) hg hm boot_allB ha (he := he)
end
end FW

set_option linter.all false
set_option Elab.async false
set_option maxRecDepth 100000
namespace FW
open PySem L2
/-! ## calls that look at what is owned -/
abbrev GX := En → Option (List (D × Bool))
def gNone : GX := fun _ => some []
def gE (x : EX) (gs : GX) : GX := fun env => (x env).bind fun r => (gs env).map fun l => (r.d, false) :: l
def gV (i : Nat) (gs : GX) : GX := fun env => match env[i]? with
  | some (.pu d) => (gs env).map fun l => (d, false) :: l
  | some (.mu d) => (gs env).map fun l => (d, true) :: l
  | some (.bo d) => (gs env).map fun l => (d, true) :: l
  | _ => none
def GV (K : PySem.W.Frag) (O : List Addr) (H : Hp) (x : D × Bool) (v : V) : Prop := (x.2 = false ∧ DV K (off H O) x.1 v) ∨ (x.2 = true ∧ ∃ p, v = .ref p ∧ p ∈ O ∧ Cont K (off H O) (H p) x.1)
def tG (K : PySem.W.Frag) (x : GX) : TA := fun σ H Q => ∃ M O env ds, ER K M O env σ H ∧ x env = some ds ∧ ∀ vs H', Same H H' → Paired (fun d v => GV K O H' d v) ds vs → Q vs H'
theorem GV.mono {K : PySem.W.Frag} {O : List Addr} {H H' : Hp} {x : D × Bool} {v : V} (h : GV K O H x v) (e : Same H H') : GV K O H' x v := by
  rcases h with ⟨h1, h2⟩ | ⟨h1, p, h2, h3, h4⟩
  · exact .inl ⟨h1, h2.mono (off_mono e)⟩
  · refine .inr ⟨h1, p, h2, h3, ?_⟩
    cases q : H p with
    | none => exact absurd q h4.some
    | some u => rw [e _ _ q, ← q]; exact h4.mono (off_mono e)
section
variable {X : Cx}
theorem cg_nil : PA X [] (tG X.K gNone) := pa_nil.imp fun σ H Q ⟨M, O, env, ds, er, e, k⟩ => by
  cases e
  exact k [] H (Same.refl H) .nil
theorem cg_v {i : Nat} {x : Str} {p : Pos} {es : List Expr} {xs : GX} (he : PE X (.Name x p) (tVar i)) (hs : PA X es (tG X.K xs)) (h2 : starEach (.Name x p :: es) X.env = (false, eval (.Name x p) X.env) :: starEach es X.env := by rfl) : PA X (.Name x p :: es) (tG X.K (gV i xs)) := (pa_cons he hs h2).imp fun σ H Q ⟨M, O, env, ds, er, e, k⟩ => by
  unfold gV at e
  cases q2 : xs env with
  | none => rw [q2] at e; split at e <;> cases e
  | some d2 =>
    rw [q2] at e
    split at e
    · rename_i d hd
      cases e
      obtain ⟨v, h1, h2⟩ := er.sl i _ hd
      exact ⟨v, h1, M, O, env, d2, er, q2, fun vs H2 s2 r2 => k _ H2 s2 (.cons (GV.mono (.inl ⟨rfl, h2⟩) s2) r2)⟩
    · rename_i d hd
      cases e
      obtain ⟨p, h1, h0, h2⟩ := er.sl i _ hd
      exact ⟨_, h1, M, O, env, d2, er, q2, fun vs H2 s2 r2 => k _ H2 s2 (.cons (GV.mono (.inr ⟨rfl, p, rfl, h0, h2⟩) s2) r2)⟩
    · rename_i d hd
      cases e
      obtain ⟨p, h1, _, h0, h2⟩ := er.sl i _ hd
      exact ⟨_, h1, M, O, env, d2, er, q2, fun vs H2 s2 r2 => k _ H2 s2 (.cons (GV.mono (.inr ⟨rfl, p, rfl, h0, h2⟩) s2) r2)⟩
    · cases e
end
mutual
def sep (bl bd : Bool) : D → Bool
  | .tup ds => seps bl bd ds
  | .lst ds => !bl && seps bl bd ds
  | .dic ds => !bd && sepk bl bd ds
  | .obj _ _ => false
  | _ => true
def seps (bl bd : Bool) : List D → Bool
  | [] => true
  | d :: ds => sep bl bd d && seps bl bd ds
def sepk (bl bd : Bool) : List (Key × D) → Bool
  | [] => true
  | kd :: ds => sepp bl bd kd && sepk bl bd ds
def sepp (bl bd : Bool) : Key × D → Bool
  | (_, d) => sep bl bd d
end
def OutOf (H : Hp) (O O' : List Addr) (bl bd : Bool) : Prop := ∀ p, p ∈ O → p ∉ O' → (bl = true ∧ ∃ vs, H p = some (.lst vs)) ∨ (bd = true ∧ ∃ ws, H p = some (.dK ws)) ∨ ∃ C dx fs, H p = some (.ins C dx fs)
section
variable {K : PySem.W.Frag} {H : Hp} {O O' : List Addr} {bl bd : Bool}
theorem off_rd {u : HO} {a : Addr} (h : Rd (off H O') a u) (hn : a ∉ O) : Rd (off H O) a u := by
  rcases h with h | ⟨o, h⟩
  · exact .inl (off_some.mpr ⟨hn, (off_some.mp h).2⟩)
  · exact .inr ⟨o, off_some.mpr ⟨hn, (off_some.mp h).2⟩⟩
theorem rd_off {u : HO} {a : Addr} (h : Rd (off H O') a u) : a ∉ O' ∧ (H a = some u ∨ ∃ o, H a = some (.frz o u)) := by
  rcases h with h | ⟨o, h⟩
  · exact ⟨(off_some.mp h).1, .inl (off_some.mp h).2⟩
  · exact ⟨(off_some.mp h).1, .inr ⟨o, (off_some.mp h).2⟩⟩
mutual
theorem DV.sep (ho : OutOf H O O' bl bd) : ∀ (d : D) (v : V), FW.sep bl bd d = true → DV K (off H O') d v → DV K (off H O) d v
  | .non, _, _, h => by simpa only [DV] using h
  | .bl _, _, _, h => by simpa only [DV] using h
  | .int _, _, _, h => by simpa only [DV] using h
  | .str _, _, _, h => by simpa only [DV] using h
  | .tup ds, v, hs, h => by
    simp only [DV] at h ⊢
    simp only [FW.sep] at hs
    obtain ⟨b, vs, e1, e2, e3⟩ := h
    refine ⟨b, vs, e1, e2.elim (fun z => .inl (off_rd z fun hb => ?_)) .inr, DVs.sep ho ds vs hs e3⟩
    obtain ⟨z1, z2⟩ := rd_off z
    rcases ho b hb z1 with ⟨_, _, w⟩ | ⟨_, _, w⟩ | ⟨_, _, _, w⟩ <;> rw [w] at z2 <;> rcases z2 with z2 | ⟨_, z2⟩ <;> cases z2
  | .lst ds, v, hs, h => by
    simp only [DV] at h ⊢
    simp only [FW.sep, Bool.and_eq_true, Bool.not_eq_true'] at hs
    obtain ⟨b, vs, e1, e2, e3⟩ := h
    refine ⟨b, vs, e1, e2.elim (fun z => .inl (off_rd z fun hb => ?_)) .inr, DVs.sep ho ds vs hs.2 e3⟩
    obtain ⟨z1, z2⟩ := rd_off z
    rcases ho b hb z1 with ⟨w0, _, w⟩ | ⟨_, _, w⟩ | ⟨_, _, _, w⟩
    · rw [hs.1] at w0; cases w0
    · rw [w] at z2; rcases z2 with z2 | ⟨_, z2⟩ <;> cases z2
    · rw [w] at z2; rcases z2 with z2 | ⟨_, z2⟩ <;> cases z2
  | .dic ds, v, hs, h => by
    simp only [DV] at h ⊢
    simp only [FW.sep, Bool.and_eq_true, Bool.not_eq_true'] at hs
    obtain ⟨b, vs, e1, e2, e3⟩ := h
    refine ⟨b, vs, e1, off_rd e2 fun hb => ?_, DVk.sep ho ds vs hs.2 e3⟩
    obtain ⟨z1, z2⟩ := rd_off e2
    rcases ho b hb z1 with ⟨w0, _, w⟩ | ⟨w0, _, w⟩ | ⟨_, _, _, w⟩
    · rw [w] at z2; rcases z2 with z2 | ⟨_, z2⟩ <;> cases z2
    · rw [hs.1] at w0; cases w0
    · rw [w] at z2; rcases z2 with z2 | ⟨_, z2⟩ <;> cases z2
  | .obj C ds, v, hs, h => by simp [FW.sep] at hs
theorem DVs.sep (ho : OutOf H O O' bl bd) : ∀ (ds : List D) (vs : List V), FW.seps bl bd ds = true → DVs K (off H O') ds vs → DVs K (off H O) ds vs
  | [], _, _, h => by simpa only [DVs] using h
  | d :: ds, _, hs, h => by
    simp only [DVs] at h ⊢
    simp only [FW.seps, Bool.and_eq_true] at hs
    obtain ⟨v, r, e1, e2, e3⟩ := h
    exact ⟨v, r, e1, DV.sep ho d v hs.1 e2, DVs.sep ho ds r hs.2 e3⟩
theorem DVk.sep (ho : OutOf H O O' bl bd) : ∀ (ds : List (Key × D)) (vs : List (Key × V)), FW.sepk bl bd ds = true → DVk K (off H O') ds vs → DVk K (off H O) ds vs
  | [], _, _, h => by simpa only [DVk] using h
  | kd :: ds, _, hs, h => by
    simp only [DVk] at h ⊢
    simp only [FW.sepk, Bool.and_eq_true] at hs
    obtain ⟨v, r, e1, e2, e3⟩ := h
    exact ⟨v, r, e1, DVp.sep ho kd v hs.1 e2, DVk.sep ho ds r hs.2 e3⟩
theorem DVp.sep (ho : OutOf H O O' bl bd) : ∀ (kd : Key × D) (v : V), FW.sepp bl bd kd = true → DVp K (off H O') kd v → DVp K (off H O) kd v
  | (_, d), v, hs, h => by
    simp only [DVp] at h ⊢
    simp only [FW.sepp] at hs
    exact DV.sep ho d v hs h
end
end
def isLst : D → Bool
  | .lst _ => true
  | _ => false
def isDic : D → Bool
  | .dic _ => true
  | _ => false
/-- what a result may share -/
def sepR (ds : List (D × Bool)) (r : RV) : Bool :=
  let bl := ds.any fun x => x.2 && isLst x.1
  let bd := ds.any fun x => x.2 && isDic x.1
  if r.fr then (match r.d with
    | .lst ds => seps bl bd ds
    | .dic ds => sepk bl bd ds
    | .obj _ ds => sepk bl bd ds
    | _ => false) else sep bl bd r.d
def eCallB (n : Nat) (F : List D → Option RV) (gs : GX) : EX := fun env => (gs env).bind fun ds => if ds.length = n then (F (ds.map (·.1))).bind fun r => if sepR ds r then some r else none else none
def ownAd : List (D × Bool) → List V → List Addr
  | (_, true) :: ds, .ref p :: vs => p :: ownAd ds vs
  | (_, _) :: ds, _ :: vs => ownAd ds vs
  | _, _ => []
theorem gv_dvs {K : PySem.W.Frag} {O O' : List Addr} {H : Hp} (hO : ∀ b ∈ O', b ∈ O) : ∀ {ds : List (D × Bool)} {vs : List V}, Paired (fun d v => GV K O H d v) ds vs → (∀ p ∈ ownAd ds vs, p ∉ O') → DVs K (off H O') (ds.map (·.1)) vs
  | _, _, .nil, _ => by simp [DVs]
  | _, _, .cons (a := x) (b := v) (l₁ := ds) (l₂ := vs) h t, hn => by
    simp only [List.map_cons]
    rcases h with ⟨h1, h2⟩ | ⟨h1, p, rfl, h3, h4⟩
    · refine .cons (h2.mono (off_sub hO)) (gv_dvs hO t fun p hp => hn p ?_)
      obtain ⟨d, b⟩ := x
      simp only at h1
      subst h1
      cases v <;> exact hp
    · obtain ⟨d, b⟩ := x
      simp only at h1 h4
      subst h1
      have np : p ∉ O' := hn p (by simp [ownAd])
      refine .cons ?_ (gv_dvs hO t fun q hq => hn q (by simp [ownAd, hq]))
      have e1 : off H O' p = H p := by unfold off; rw [if_neg np]
      have h5 : Cont K (off H O) (off H O' p) d := by rw [e1]; exact h4
      exact h5.dv (off_sub hO)
theorem own_out {K : PySem.W.Frag} {O : List Addr} {H H' : Hp} (hs : Same H H') : ∀ {ds : List (D × Bool)} {vs : List V}, Paired (fun d v => GV K O H d v) ds vs → ∀ p ∈ ownAd ds vs, ((ds.any fun x => x.2 && isLst x.1) = true ∧ ∃ ws, H' p = some (.lst ws)) ∨ ((ds.any fun x => x.2 && isDic x.1) = true ∧ ∃ ws, H' p = some (.dK ws)) ∨ ∃ C dx fs, H' p = some (.ins C dx fs)
  | _, _, .nil, p, hp => by simp [ownAd] at hp
  | _, _, .cons (a := x) (b := v) (l₁ := ds) (l₂ := vs) h t, p, hp => by
    have tail : p ∈ ownAd ds vs → _ := fun hq => own_out hs t p hq
    have lift : p ∈ ownAd ds vs → (((x :: ds).any fun x => x.2 && isLst x.1) = true ∧ ∃ ws, H' p = some (.lst ws)) ∨ (((x :: ds).any fun x => x.2 && isDic x.1) = true ∧ ∃ ws, H' p = some (.dK ws)) ∨ ∃ C dx fs, H' p = some (.ins C dx fs) := fun hq => by
      rcases tail hq with ⟨a, b⟩ | ⟨a, b⟩ | b
      · exact .inl ⟨by rw [List.any_cons, a, Bool.or_true], b⟩
      · exact .inr (.inl ⟨by rw [List.any_cons, a, Bool.or_true], b⟩)
      · exact .inr (.inr b)
    obtain ⟨d, b⟩ := x
    rcases h with ⟨h1, h2⟩ | ⟨h1, q, rfl, h3, h4⟩
    · simp only at h1
      subst h1
      refine lift ?_
      cases v <;> exact hp
    · simp only at h1 h4
      subst h1
      simp only [ownAd, List.mem_cons] at hp
      rcases hp with rfl | hp
      · cases d with
        | lst ds' =>
          obtain ⟨ws, e, _⟩ := h4
          exact .inl ⟨by simp [isLst], ws, hs _ _ e⟩
        | dic ds' =>
          obtain ⟨ws, e, _⟩ := h4
          exact .inr (.inl ⟨by simp [isDic], ws, hs _ _ e⟩)
        | obj C ds' =>
          obtain ⟨dx, fs, e, _⟩ := h4
          exact .inr (.inr ⟨C, dx, fs, hs _ _ e⟩)
        | non => exact h4.elim
        | bl _ => exact h4.elim
        | int _ => exact h4.elim
        | str _ => exact h4.elim
        | tup _ => exact h4.elim
      · exact lift hp
section
variable {X : Cx}
theorem ce_callB {k j : Nat} {F : List D → Option RV} {x : Str} {p pos : Pos} {e : Expr} {es : List Expr} {gs : GX} {n : Nat} (C : Cal X.prog X.w X.K X.mg X.base k x n F) (hr : Room j X.A) (hk : k ≤ j) (hg : Gl X x)
    (ha : PA X (e :: es) (tG X.K gs)) (hdb : (x == ("__debug__" : Str)) = false := by decide) (he : starEach (e :: es) X.env = (false, eval e X.env) :: starEach es X.env := by rfl) (hpl : (backTo pos (starEach es X.env)).any (·.1) = false := by rfl) :
    PE X (.Call (.Name x p) (e :: es) [] pos) (tE X.K (eCallB n F gs)) := by
  obtain ⟨f, fd, ps, c1, c2, c3, c4⟩ := C
  refine (pe_call c4 (hr.mono hk) hg c1 c2 c3 .nil pass0 ha hdb he hpl).imp fun σ H Q h => ?_
  obtain ⟨M, O, env, r, er, e, k⟩ := h
  unfold eCallB at e
  cases q1 : gs env with
  | none => rw [q1] at e; cases e
  | some ds =>
    rw [q1] at e
    simp only [Option.bind_some] at e
    split at e
    · rename_i hl
      cases q2 : F (ds.map (·.1)) with
      | none => rw [q2] at e; cases e
      | some r' =>
        rw [q2] at e
        simp only [Option.bind_some] at e
        split at e
        · rename_i hsep
          cases e
          refine ⟨M, O, env, ds, er, q1, fun vs H1 s1 gv => ?_⟩
          let O' := O.filter fun b => decide (b ∉ ownAd ds vs)
          have memO : ∀ b, b ∈ O' ↔ b ∈ O ∧ b ∉ ownAd ds vs := fun b => by simp [O']
          have sub : ∀ b ∈ O', b ∈ O := fun b hb => ((memO b).mp hb).1
          have dv := gv_dvs (O' := O') sub gv fun p hp hp' => ((memO p).mp hp').2 hp
          refine ⟨by rw [List.append_nil, dv.length, List.length_map]; exact hl, O', ds.map (·.1), r, fun p hp => (er.mono s1).dom p (sub p hp), by rw [List.append_nil]; exact dv, q2, fun v H' s2 ok => ?_⟩
          have out : ∀ (O1 O2 : List Addr), (∀ b, b ∈ O1 → b ∉ O2 → b ∈ O ∧ b ∉ O') → OutOf H' O1 O2 (ds.any fun x => x.2 && isLst x.1) (ds.any fun x => x.2 && isDic x.1) := fun O1 O2 hh b h1 h2 => by
            obtain ⟨g1, g2⟩ := hh b h1 h2
            have : b ∈ ownAd ds vs := by
              by_cases z : b ∈ ownAd ds vs
              · exact z
              · exact absurd ((memO b).mpr ⟨g1, z⟩) g2
            exact own_out s2 gv b this
          unfold sepR at hsep
          refine k v H' (s1.trans s2) ?_
          by_cases hf : r.fr = true
          · simp only [hf, if_true] at hsep
            obtain ⟨p, h1, h2, h3⟩ := ok.2 hf
            have np : p ∉ O := fun z => (er.mono s1).dom p z h2
            have c5 : Cont X.K (off H' (p :: O)) (H' p) r.d := by
              have oo := out (p :: O) (p :: O') fun b h1 h2 => by
                simp only [List.mem_cons, not_or] at h1 h2
                exact ⟨h1.resolve_left h2.1, h2.2⟩
              cases hd : r.d with
              | lst ds' =>
                rw [hd] at h3 hsep
                obtain ⟨ws, g1, g2⟩ := h3
                exact ⟨ws, g1, g2.sep oo _ _ hsep⟩
              | dic ds' =>
                rw [hd] at h3 hsep
                obtain ⟨ws, g1, g2⟩ := h3
                exact ⟨ws, g1, g2.sep oo _ _ hsep⟩
              | obj C' ds' =>
                rw [hd] at h3 hsep
                obtain ⟨dx, fs, g1, g2⟩ := h3
                exact ⟨dx, fs, g1, g2.sep oo _ _ hsep⟩
              | non => rw [hd] at h3; exact h3.elim
              | bl _ => rw [hd] at h3; exact h3.elim
              | int _ => rw [hd] at h3; exact h3.elim
              | str _ => rw [hd] at h3; exact h3.elim
              | tup _ => rw [hd] at h3; exact h3.elim
            refine ⟨?_, fun _ => ⟨p, h1, s1.free h2, c5⟩⟩
            subst h1
            have e1 : off H' O p = H' p := by unfold off; rw [if_neg np]
            have c6 : Cont X.K (off H' (p :: O)) (off H' O p) r.d := by rw [e1]; exact c5
            exact c6.dv (off_sub fun b hb => List.mem_cons_of_mem _ hb)
          · simp only [hf, if_false] at hsep
            exact ⟨ok.1.sep (out O O' fun b h1 h2 => ⟨h1, h2⟩) _ _ hsep, fun z => absurd z hf⟩
        · cases e
    · cases e
end
/-! ## calls that change their first argument -/
def SpM (K : PySem.W.Frag) (n : Nat) (F : List D → Option D) : Sp := fun vs H Q _ => vs.length = n ∧ ∃ O p c ds vr c', vs = .ref p :: vr ∧ (∀ p ∈ O, H p ≠ none) ∧ p ∈ O ∧ Cont K (off H O) (H p) c ∧ DVs K (off H O) ds vr ∧ F (c :: ds) = some c' ∧
  ∀ H', (∀ b o, b ≠ p → H b = some o → H' b = some o) → Cont K (off H' O) (H' p) c' → Q .non H'
def CalM (P : Program) (w : World) (K : PySem.W.Frag) (mg : Str → Option Value) (base : Heap) (k : Nat) (x : Str) (n : Nat) (F : List D → Option D) : Prop :=
  ∃ (f : Addr) (fd : FuncData) (ps : List Str), mg x = some (.ref f) ∧ PySem.W.keepIn K (.ref f) = true ∧ Binds K fd ps [] ∧ FnOk P w K mg base CX0 k f fd ps (SpM K n F)
def sCallM (i : Nat) (n : Nat) (F : List D → Option D) (xs : AX) : SX := fun _ env => (ownD i env).bind fun c => (xs env).bind fun ds => if ds.length + 1 = n then (F (c :: ds)).map fun c' => .nx (setMu i c' env) else none
section
variable {X : Cx}
end
/-- a def that changes its first argument -/
def boOf (e : En) : Option D := match e[0]? with
  | some (Sl.bo c') => some c'
  | _ => none
def fnM (m : Nat) (s : SX) (n : Nat) (ds : List D) : Option D := match ds with
  | c :: ds => match s n (Sl.bo c :: (ds.map Sl.pu ++ List.replicate (m - (ds.length + 1)) Sl.un)) with
    | some (.nx e) => boOf e
    | some (.rt ⟨.non, false⟩ e) => boOf e
    | _ => none
  | [] => none
theorem start_okM {K : PySem.W.Frag} {N : List Str} {O : List Addr} {H : Hp} {c : D} {p : Addr} {ds : List D} {vs : List V} (h : DVs K (off H O) ds vs) (dom : ∀ p ∈ O, H p ≠ none) (hp : p ∈ O) (hc : Cont K (off H O) (H p) c) (hl : vs.length + 1 ≤ N.length) :
    SR K (some p) O H (fun _ => True) (Sl.bo c :: (ds.map Sl.pu ++ List.replicate (N.length - (ds.length + 1)) Sl.un)) (start N (.ref p :: vs)) H := by
  have hv := h.length
  have sl : ∀ (i : Nat) (s : Sl), (Sl.bo c :: (ds.map Sl.pu ++ List.replicate (N.length - (ds.length + 1)) Sl.un))[i]? = some s → (i = 0 ∧ s = .bo c) ∨ (∃ d j, i = j + 1 ∧ s = .pu d ∧ ds[j]? = some d) ∨ s = .un := fun i s e => by
    cases i with
    | zero => simp at e; exact .inl ⟨rfl, e.symm⟩
    | succ i =>
      rw [List.getElem?_cons_succ] at e
      by_cases hi : i < ds.length
      · rw [List.getElem?_append_left (by simpa using hi), List.getElem?_map] at e
        cases q : ds[i]? with
        | none => rw [q] at e; cases e
        | some d => rw [q] at e; cases e; exact .inr (.inl ⟨d, i, rfl, rfl, q⟩)
      · rw [List.getElem?_append_right (by simpa using hi)] at e
        exact .inr (.inr (List.eq_of_mem_replicate (List.mem_of_getElem? e)))
  refine ⟨O, ⟨⟨fun i s e => ?_, fun i j s t q hi hj os ot _ _ => ?_, dom⟩, fun _ z => z, fun p hp => .inl hp, dom, fun b o _ z => z, trivial, fun i d p hi _ => ?_, fun q z => (by cases z; exact hp), ?_⟩⟩
  · rcases sl i s e with ⟨rfl, rfl⟩ | ⟨d, j, rfl, rfl, hd⟩ | rfl
    · refine ⟨p, ?_, rfl, hp, hc⟩
      unfold L2.start
      simp
    · obtain ⟨v, h1, h2⟩ := h.get hd
      refine ⟨v, ?_, h2⟩
      have hi : j < vs.length := (List.getElem?_eq_some_iff.mp h1).1
      unfold L2.start
      rw [List.getElem?_append_left (by simpa using hi), List.getElem?_map, List.getElem?_cons_succ, h1]
      rfl
    · trivial
  · have i0 : ∀ (i : Nat) (s : Sl), (Sl.bo c :: (ds.map Sl.pu ++ List.replicate (N.length - (ds.length + 1)) Sl.un))[i]? = some s → s.own = true → i = 0 := fun i s hi os => by
      rcases sl i s hi with ⟨rfl, rfl⟩ | ⟨d, j, rfl, rfl, hd⟩ | rfl
      · rfl
      · cases os
      · cases os
    rw [i0 i s hi os, i0 j t hj ot]
  · rcases sl i _ hi with ⟨_, z⟩ | ⟨_, _, _, z, _⟩ | z <;> cases z
  · unfold L2.start
    simp [hv]
theorem CalM.mk {P : Program} {w : World} {K : PySem.W.Frag} {mg : Str → Option Value} {base : Heap} {x qual : Str} {st : Stmt} {f : Addr} {fd : FuncData} {N ps : List Str} {k : Nat} {s : SX} {Fn : List D → Option D}
    (F : Fun K x qual st f fd) (mf : mg x = some (.ref f)) (bf : Binds K fd ps []) (S : FnScope N ps (defScope st)) (hN : ps.length ≤ N.length) (hF : ∀ ds r, Fn ds = some r → ∃ n, fnM N.length s n ds = some r)
    (hb : ∀ (cdv : Value) (A : Around) (outer : List Env) (s0 : Shared) (H : Hp) (E : XK), Room k (A.deeper (PyProof.Rows.envOfC qual (defScope st) s0.heap.objs.size f cdv)) → PSs (cxOf CX0 P w K mg base N qual (defScope st) f cdv A outer s0 H E).nox (defBody st) (tS K s)) :
    CalM P w K mg base (k + 1) x ps.length Fn := by
  refine ⟨f, fd, ps, mf, F.kp, bf, F.ok S (fun vs H Q E h => h.1) (fun cdv A outer s0 H vs Q E hr h => ⟨_, hb cdv A outer s0 H E hr, ?_⟩)⟩
  obtain ⟨hl, O, p, c, ds, vr, c', rfl, dom, hp, hc, dv, e, kq⟩ := h
  obtain ⟨n, e⟩ := hF _ _ e
  unfold fnM at e
  have R := start_okM (N := N) dv dom hp hc (by simp only [List.length_cons] at hl; omega)
  simp only at e
  split at e
  · rename_i e1 he
    unfold boOf at e
    split at e
    · rename_i c2 he0
      cases e
      refine ⟨some p, O, H, _, _, n, _, fun _ _ _ z => z, R, he, fun σ' H' ⟨O', R'⟩ => ?_⟩
      obtain ⟨q, g1, g2, g3, g4⟩ := R'.er.sl 0 _ he0
      cases g2
      exact kq H' (fun b o hb z => R'.same b o (fun w => hb (by cases w; rfl)) z) (g4.mono (off_sub R'.sub))
    · cases e
  · rename_i e1 he
    unfold boOf at e
    split at e
    · rename_i c2 he0
      cases e
      refine ⟨some p, O, H, _, _, n, _, fun _ _ _ z => z, R, he, fun v H' ok => ?_⟩
      have hv := ok.1.1
      simp only [DV] at hv
      subst hv
      exact kq H' (fun b o hb z => ok.2.1 b o (fun w => hb (by cases w; rfl)) z) (ok.2.2.2 p 0 _ rfl he0)
    · cases e
  · cases e
end FW

set_option linter.all false
set_option Elab.async false
set_option maxRecDepth 100000
namespace FW
open PySem L2
/-! ## x = row.pop(), d.clear(), {k: v} -/
def sPop (i j : Nat) : SX := fun _ env => (ownD j env).bind fun c => match c with
  | .lst ds => (match ds.getLast? with | some d => some (.nx ((setMu j (.lst ds.dropLast) env).set i (.pu d))) | none => none)
  | _ => none
theorem DVs.dropLast {K : PySem.W.Frag} {H : Hp} : ∀ {ds : List D} {vs : List V}, DVs K H ds vs → DVs K H ds.dropLast vs.dropLast
  | [], _, h => by simp only [DVs] at h; subst h; simp [DVs]
  | [d], _, h => by
    simp only [DVs] at h
    obtain ⟨v, r, rfl, _, rfl⟩ := h
    simp [DVs]
  | d :: e :: ds, _, h => by
    rw [DVs] at h
    obtain ⟨v, r, rfl, h1, h2⟩ := h
    have h3 := h2
    rw [DVs] at h3
    obtain ⟨w, r', rfl, _, _⟩ := h3
    simp only [List.dropLast_cons₂]
    exact .cons h1 (DVs.dropLast h2)
def rDClear : V → List V → Hp → VK → Prop := fun x vs H Q => ∃ l ws, x = .ref l ∧ vs = [] ∧ H l = some (.dK ws) ∧ Q .non (upd H l (.dK []))
def sClear (i : Nat) : SX := fun _ env => (ownD i env).bind fun c => match c with
  | .dic _ => some (.nx (setMu i (.dic []) env))
  | _ => none
section
variable {X : Cx}
def eDisp1 (a : BX) (b : EX) : EX := fun env => (a env).bind fun kd => (keyD kd).bind fun k => (b env).map fun r => ⟨.dic [(k, r.d)], true⟩
end
/-! ## comprehensions -/
def wipeE (env : En) : List Nat → En
  | [] => env
  | v :: vs => (wipeE env vs).set v .un
def lcGo (gd : D → En → Option En) (tt : BX) (te : EX) (env : En) : List D → Option (List D)
  | [] => some []
  | d :: ds => (gd d env).bind fun e1 => (tt e1).bind fun t => match t with
    | .bl true => (te e1).bind fun r => (lcGo gd tt te env ds).map fun l => r.d :: l
    | .bl false => lcGo gd tt te env ds
    | _ => none
def lcD (gd : D → En → Option En) (tt : BX) (te : EX) (vs : List Nat) (env : En) (ds : List D) : Option RV := if ds.length ≤ lim then (lcGo gd tt te (wipeE env vs) ds).map fun out => ⟨.lst out, true⟩ else none
def eLc (src : AX) (gd : D → En → Option En) (tt : BX) (te : EX) (vs : List Nat) : EX := fun env => (src env).bind fun ds => lcD gd tt te vs env ds
def eLcV (i : Nat) (gd : D → En → Option En) (tt : BX) (te : EX) (vs : List Nat) : EX := fun env => match env[i]? with
  | some (.pu d) => (itemsD d).bind fun ds => lcD gd tt te vs env ds
  | _ => none
section
variable {K : PySem.W.Frag} {M : Option Addr} {O : List Addr} {env : En} {σ : St} {H : Hp}
theorem wipe_ne {j : Nat} : ∀ {vs : List Nat}, j ∉ vs → (wipe σ vs)[j]? = σ[j]?
  | [], _ => rfl
  | v :: vs, h => by
    simp only [List.mem_cons, not_or] at h
    unfold wipe
    rw [List.getElem?_set_ne (fun z => h.1 z.symm), wipe_ne h.2]
theorem wipeE_get {j : Nat} {s : Sl} : ∀ {vs : List Nat}, (wipeE env vs)[j]? = some s → (j ∉ vs ∧ env[j]? = some s) ∨ s = .un
  | [], h => .inl ⟨by simp, h⟩
  | v :: vs, h => by
    unfold wipeE at h
    by_cases e : v = j
    · subst e
      by_cases hv : v < (wipeE env vs).length
      · rw [List.getElem?_set_self hv] at h; cases h; exact .inr rfl
      · rw [List.getElem?_eq_none (by simpa using hv)] at h; cases h
    · rw [List.getElem?_set_ne e] at h
      rcases wipeE_get h with ⟨h1, h2⟩ | h1
      · exact .inl ⟨by simp only [List.mem_cons, not_or]; exact ⟨fun z => e z.symm, h1⟩, h2⟩
      · exact .inr h1
theorem ER.wipe (r : ER K M O env σ H) (vs : List Nat) : ER K M O (wipeE env vs) (L2.wipe σ vs) H := by
  refine ⟨fun i s hi => ?_, fun i j s t p hi hj os ot pi pj => ?_, r.dom⟩
  · rcases wipeE_get hi with ⟨h1, h2⟩ | rfl
    · rw [wipe_ne h1]; exact r.sl i s h2
    · trivial
  · rcases wipeE_get hi with ⟨h1, h2⟩ | rfl
    · rcases wipeE_get hj with ⟨h3, h4⟩ | rfl
      · rw [wipe_ne h1] at pi
        rw [wipe_ne h3] at pj
        exact r.ow i j s t p h2 h4 os ot pi pj
      · cases ot
    · cases os
theorem ER.put {i : Nat} {d : D} {v : V} (r : ER K M O env σ H) (hl : i < σ.length) (h : DV K (off H O) d v) : ER K M O (env.set i (.pu d)) (σ.set i (some v)) H := by
  have get : ∀ {j : Nat} {s : Sl}, (env.set i (.pu d))[j]? = some s → (i = j ∧ s = .pu d) ∨ (i ≠ j ∧ env[j]? = some s) := fun {j s} hj => by
    by_cases e : i = j
    · subst e
      by_cases hv : i < env.length
      · rw [List.getElem?_set_self hv] at hj; cases hj; exact .inl ⟨rfl, rfl⟩
      · rw [List.getElem?_eq_none (by simpa using hv)] at hj; cases hj
    · rw [List.getElem?_set_ne e] at hj; exact .inr ⟨e, hj⟩
  refine ⟨fun j s hj => ?_, fun j k s t p hj hk os ot pj pk => ?_, r.dom⟩
  · rcases get hj with ⟨rfl, rfl⟩ | ⟨e, h2⟩
    · rw [List.getElem?_set_self hl]; exact ⟨v, rfl, h⟩
    · rw [List.getElem?_set_ne e]; exact r.sl j s h2
  · rcases get hj with ⟨rfl, rfl⟩ | ⟨e, h2⟩
    · cases os
    · rcases get hk with ⟨rfl, rfl⟩ | ⟨e', h3⟩
      · cases ot
      · rw [List.getElem?_set_ne e] at pj
        rw [List.getElem?_set_ne e'] at pk
        exact r.ow j k s t p h2 h3 os ot pj pk
theorem wipe_set {i : Nat} {x : Option V} : ∀ {vs : List Nat}, i ∈ vs → ∀ {σ : St}, L2.wipe (σ.set i x) vs = L2.wipe σ vs
  | [], h, _ => by simp at h
  | v :: vs, h, σ => by
    unfold L2.wipe
    by_cases hv : i ∈ vs
    · rw [wipe_set hv]
    · have e : i = v := (List.mem_cons.mp h).resolve_right hv
      subst e
      have : ∀ {ws : List Nat} {σ : St}, i ∉ ws → L2.wipe (σ.set i x) ws = (L2.wipe σ ws).set i x := by
        intro ws
        induction ws with
        | nil => intro σ _; rfl
        | cons w ws ih =>
          intro σ hw
          simp only [List.mem_cons, not_or] at hw
          unfold L2.wipe
          rw [ih hw.2, List.set_comm _ _ hw.1]
      rw [this hv, List.set_set]
theorem wipe_wipe : ∀ {vs : List Nat} {σ : St}, L2.wipe (L2.wipe σ vs) vs = L2.wipe σ vs := by
  intro vs σ
  have key : ∀ {ws : List Nat} {σ : St}, (∀ w ∈ ws, w ∈ vs) → L2.wipe (L2.wipe σ ws) vs = L2.wipe σ vs := by
    intro ws
    induction ws with
    | nil => intro σ _; rfl
    | cons w ws ih =>
      intro σ hw
      show L2.wipe ((L2.wipe σ ws).set w none) vs = _
      rw [wipe_set (hw w List.mem_cons_self), ih fun x hx => hw x (List.mem_cons_of_mem _ hx)]
  exact key fun w hw => hw
/-- a target within an expression -/
def TGe (K : PySem.W.Frag) (t : TG) (gd : D → En → Option En) (vs : List Nat) : Prop :=
  ∀ M O env σ H v d env' (Q : St → Hp → Prop), ER K M O env σ H → (∀ i ∈ vs, i < σ.length) → DV K (off H O) d v → gd d env = some env' → (∀ σ', ER K M O env' σ' H → L2.wipe σ' vs = L2.wipe σ vs → Q σ' H) → t v σ H Q
theorem te_name {i : Nat} {vs : List Nat} (hi : i ∈ vs) : TGe K (gName i) (gdName i) vs := by
  intro M O env σ H v d env' Q r hl h e k
  cases e
  exact k _ (r.put (hl i hi) h) (wipe_set hi)
theorem ER.updO {D' : Addr} {o : HO} (r : ER K M O env σ H) (hD : D' ∈ O) (hn : ∀ (j : Nat) (s : Sl), env[j]? = some s → s.own = true → σ[j]? ≠ some (some (.ref D'))) : ER K M O env σ (upd H D' o) := by
  have eo : off (upd H D' o) O = off H O := off_upd hD
  refine ⟨fun j s hj => ?_, r.ow, fun p hp => ?_⟩
  · have h := r.sl j s hj
    cases s with
    | un => trivial
    | pu d => obtain ⟨v, h1, h2⟩ := h; exact ⟨v, h1, by rw [eo]; exact h2⟩
    | mu d =>
      obtain ⟨p, h1, h2, h3⟩ := h
      have np : p ≠ D' := fun z => by subst z; exact hn j _ hj rfl h1
      exact ⟨p, h1, h2, by rw [eo, upd_ne np]; exact h3⟩
    | bo d =>
      obtain ⟨p, h1, h0, h2, h3⟩ := h
      have np : p ≠ D' := fun z => by subst z; exact hn j _ hj rfl h1
      exact ⟨p, h1, h0, h2, by rw [eo, upd_ne np]; exact h3⟩
  · by_cases e : p = D'
    · rw [e, upd_same]; simp
    · rw [upd_ne e]; exact r.dom p hp
/-- the reading of a comprehension -/
theorem lc_read {wi : TI} {g : TG} {gd : D → En → Option En} {tt : BX} {te : EX} {vs : List Nat} {ds out : List D} {Q : VK} (er : ER K M O env σ H) (hvs : ∀ i ∈ vs, i < σ.length)
    (pw : ∀ R' : It → Hp → Prop, (∀ J H1 Gi, Same H H1 → Up Gi → Gi (off H1 O) → ItOk K J ds Gi → R' J H1) → wi σ H R') (ht : TGe K g gd vs) (hl : ds.length ≤ lim) (e : lcGo gd tt te (wipeE env vs) ds = some out)
    (k : ∀ v H', Same H H' → RVok K O H H' v ⟨.lst out, true⟩ → Q v H') : tLc wi g (tT K tt) (tE K te) vs σ H Q := by
  refine pw _ fun J H1 Gi s1 ui g1 it D' hD => ?_
  let H2 := upd H1 D' (.lst [])
  have s2 : Same H1 H2 := same_upd hD
  have er2 : ER K M (D' :: O) env σ H2 := (er.mono s1).take s2 hD (by show upd H1 D' (.lst []) D' ≠ none; rw [upd_same]; simp)
  have noD : ∀ (j : Nat) (s : Sl), env[j]? = some s → s.own = true → σ[j]? ≠ some (some (.ref D')) := fun j s hj os hz => by
    have h := (er.mono s1).sl j s hj
    cases s with
    | un => cases os
    | pu d => cases os
    | mu d => obtain ⟨p, h1, h2, h3⟩ := h; rw [hz] at h1; cases h1; exact h3.some hD
    | bo d => obtain ⟨p, h1, _, h2, h3⟩ := h; rw [hz] at h1; cases h1; exact h3.some hD
  have noDw : ∀ (j : Nat) (s : Sl), (wipeE env vs)[j]? = some s → s.own = true → (L2.wipe σ vs)[j]? ≠ some (some (.ref D')) := fun j s hj os hz => by
    rcases wipeE_get hj with ⟨h1, h2⟩ | rfl
    · rw [wipe_ne h1] at hz; exact noD j s h2 os hz
    · cases os
  have hvs' : ∀ i ∈ vs, i < (L2.wipe σ vs).length := fun i hi => by rw [wipe_length]; exact hvs i hi
  let Inv' : Nat → Hp → Prop := fun i Hi => ∃ acc o1 rest, Hi D' = some (.lst acc) ∧ ER K M (D' :: O) (wipeE env vs) (L2.wipe σ vs) Hi ∧ Gi (off Hi (D' :: O)) ∧ Same H1 Hi ∧ DVs K (off Hi (D' :: O)) o1 acc ∧ acc.length ≤ i ∧ lcGo gd tt te (wipeE env vs) (ds.drop i) = some rest ∧ o1 ++ rest = out
  refine ⟨fun i m Hi => m = ds.length - i ∧ i ≤ ds.length ∧ Inv' i Hi, ⟨ds.length, by simp, Nat.zero_le _, [], [], out, upd_same, er2.wipe vs, ui _ _ (off_new s2 hD) g1, s2, by simp [DVs], by simp, by simpa using e, rfl⟩, ?_⟩
  rintro i m Hi ⟨rfl, hi, acc, o1, rest, hacc, eri, gi, si, dvi, hai, ei, eo⟩
  by_cases hlt : i < ds.length
  · have hd : ds.drop i = ds[i] :: ds.drop (i + 1) := List.drop_eq_getElem_cons hlt
    rw [hd, lcGo] at ei
    cases q1 : gd ds[i] (wipeE env vs) with
    | none => rw [q1] at ei; cases ei
    | some e1 =>
      rw [q1] at ei
      simp only [Option.bind_some] at ei
      refine .inr ⟨it.go i Hi (D' :: O) eri.dom gi hlt, Inv' (i + 1), fun H' z => ⟨ds.length - (i + 1), by omega, rfl, hlt, z⟩, fun x H' y => ?_⟩
      obtain ⟨d, h1, h2, h3⟩ := it.yld i Hi (D' :: O) x H' eri.dom gi hlt y
      have h1' : ds[i] = d := by
        rw [List.getElem?_eq_getElem hlt] at h1
        exact Option.some.inj h1
      rw [h1'] at q1
      refine ht M (D' :: O) (wipeE env vs) (L2.wipe σ vs) H' x d e1 _ (eri.mono h2) hvs' h3 q1 fun σ' er' w => ⟨w.trans wipe_wipe, ?_⟩
      have base : ∀ {Hx : Hp}, Same Hi Hx → Hx D' = some (.lst acc) ∧ ER K M (D' :: O) (wipeE env vs) (L2.wipe σ vs) Hx ∧ Gi (off Hx (D' :: O)) ∧ Same H1 Hx ∧ DVs K (off Hx (D' :: O)) o1 acc := fun {Hx} s => ⟨s _ _ hacc, eri.mono s, ui _ _ (off_mono s) gi, si.trans s, dvi.mono (off_mono s)⟩
      cases q2 : tt e1 with
      | none => rw [q2] at ei; cases ei
      | some t =>
        rw [q2] at ei
        simp only [Option.bind_some] at ei
        split at ei
        · cases q3 : te e1 with
          | none => rw [q3] at ei; cases ei
          | some r =>
            rw [q3] at ei
            simp only [Option.bind_some] at ei
            cases q4 : lcGo gd tt te (wipeE env vs) (ds.drop (i + 1)) with
            | none => rw [q4] at ei; cases ei
            | some l =>
              rw [q4] at ei
              cases ei
              refine ⟨M, D' :: O, e1, true, er', q2, fun H3 s3 => iteT ⟨M, D' :: O, e1, r, er'.mono s3, q3, fun v H4 s4 ok => ?_⟩⟩
              obtain ⟨b1, b2, b3, b4, b5⟩ := base ((h2.trans s3).trans s4)
              have hsz : acc.length < sizeLine := by
                have : acc.length < lim := by omega
                exact lim_lt this
              have eoff : off (upd H4 D' (.lst (acc ++ [v]))) (D' :: O) = off H4 (D' :: O) := off_upd List.mem_cons_self
              refine ⟨acc, b1, hsz, acc ++ [v], o1 ++ [r.d], l, upd_same, b2.updO List.mem_cons_self noDw, by rw [eoff]; exact b3, fun b o hb => ?_, by rw [eoff]; exact b5.append (.one ok.1), by simp; omega, q4, by simpa using eo⟩
              rw [upd_ne (ne_of_none hb hD)]
              exact b4 _ _ hb
        · refine ⟨M, D' :: O, e1, false, er', q2, fun H3 s3 => iteF ?_⟩
          obtain ⟨b1, b2, b3, b4, b5⟩ := base (h2.trans s3)
          exact ⟨acc, o1, rest, b1, b2, b3, b4, b5, by omega, ei, eo⟩
        · cases ei
  · have e0 : i = ds.length := by omega
    subst e0
    rw [List.drop_length, lcGo] at ei
    cases ei
    rw [List.append_nil] at eo
    subst eo
    refine .inl ⟨it.stop Hi (D' :: O) eri.dom gi, k _ Hi (s1.trans si) ⟨?_, fun _ => ⟨D', rfl, s1.free hD, acc, hacc, dvi⟩⟩⟩
    have np : D' ∉ O := fun z => (er.mono s1).dom D' z hD
    simp only [DV]
    exact ⟨D', acc, rfl, .of (off_some.mpr ⟨np, hacc⟩), dvi.mono (off_sub fun b hb => List.mem_cons_of_mem _ hb)⟩
end
section
variable {X : Cx}
abbrev Blk (X : Cx) (scope : Scope) (P : Cx → Prop) : Prop := ∀ (s : Shared) (H : Hp) (C : Addr) (cl : List (Str × Addr)) (fp : List Addr), P (X.blk s H scope (compEnvC scope cl C X.env) fp)
theorem own_lt {N : List Str} {sc scope : Scope} {own : List (Str × Nat)} (ok : BlkOk N sc scope own) {i : Nat} (hi : i ∈ own.map (·.2)) : i < N.length := by
  obtain ⟨p, hp, rfl⟩ := List.mem_map.mp hi
  exact (List.getElem?_eq_some_iff.mp (ok.ix p hp)).1
theorem pts_yes {X : Cx} : PTs X [] (tT X.K (cst (.bl true))) := fun pins s σ H Q I h => by
  obtain ⟨M, O, env, b, er, e, k⟩ := h
  cases e
  exact pts_nil pins s σ H Q I (k H (Same.refl H))
theorem lcD_some {gd : D → En → Option En} {tt : BX} {te : EX} {vs : List Nat} {env : En} {ds : List D} {r : RV} (h : lcD gd tt te vs env ds = some r) : ∃ out, r = ⟨.lst out, true⟩ ∧ ds.length ≤ lim ∧ lcGo gd tt te (wipeE env vs) ds = some out := by
  unfold lcD at h
  split at h
  · rename_i hl
    cases q : lcGo gd tt te (wipeE env vs) ds with
    | none => rw [q] at h; cases h
    | some out => rw [q] at h; cases h; exact ⟨out, rfl, hl, rfl⟩
  · cases h
theorem lc_e {σ : St} {H : Hp} {Q : VK} {pins : List (Addr × Obj)} {s : Shared} (I : Inv X pins σ H s) {scope : Scope} {own : List (Str × Nat)} {wi : TI} {src : AX} {g : TG} {gd : D → En → Option En} {tt : BX} {te : EX} (pw : PIx X.K wi src) (ok : BlkOk X.N X.env.scope scope own) (hte : TGe X.K g gd (own.map (·.2)))
    (h : tE X.K (eLc src gd tt te (own.map (·.2))) σ H Q) : tLc wi g (tT X.K tt) (tE X.K te) (own.map (·.2)) σ H Q := by
  obtain ⟨M, O, env, r, er, e, k⟩ := h
  unfold eLc at e
  cases q : src env with
  | none => rw [q] at e; cases e
  | some ds =>
    rw [q] at e
    obtain ⟨out, rfl, hl, e2⟩ := lcD_some e
    exact lc_read er (fun i hi => by rw [I.len]; exact own_lt ok hi) (fun R' hh => pw M O env σ H ds R' er q hh) hte hl e2 k
theorem ce_lc {elt tg iter : Expr} {ifs : List Expr} {scope : Scope} {own : List (Str × Nat)} {pos : Pos} {wi : TI} {src : AX} {g : TG} {gd : D → En → Option En} {tt : BX} {te : EX} (hc : X.calm = true) (hN : X.N.Nodup) (hi : PI X tg iter wi) (pw : PIx X.K wi src) (ok : BlkOk X.N X.env.scope scope own)
    (hg : Blk X scope fun Y => PG Y tg g) (hte : TGe X.K g gd (own.map (·.2))) (ht : Blk X scope fun Y => PTs Y ifs (tT X.K tt)) (he : Blk X scope fun Y => PE Y elt (tE X.K te)) (hs : ∀ x, foldedSetIterable iter X.env x = pure x := by intro _; rfl) :
    PE X (.ListComp elt [⟨tg, iter, ifs, 0⟩] scope pos) (tE X.K (eLc src gd tt te (own.map (·.2)))) := fun pins s σ H Q I h =>
  pe_lc hc hN hi ok hg ht he hs pins s σ H Q I (lc_e I pw ok hte h)
/-- over a name: a list, a tuple, a dict -/
theorem lcV {pins : List (Addr × Obj)} {s : Shared} {σ : St} {H : Hp} {Q : VK} {W : Prop} {i : Nat} {scope : Scope} {own : List (Str × Nat)} {g : TG} {gd : D → En → Option En} {tt : BX} {te : EX} (I : Inv X pins σ H s) (ok : BlkOk X.N X.env.scope scope own) (hte : TGe X.K g gd (own.map (·.2)))
    (go1 : tLc (iList X.K (tE X.K (eVar i))) g (tT X.K tt) (tE X.K te) (own.map (·.2)) σ H Q → W) (go2 : tLc (iTup X.K (tE X.K (eVar i))) g (tT X.K tt) (tE X.K te) (own.map (·.2)) σ H Q → W)
    (go3 : tLc (iKeys (tVar i)) g (tT X.K tt) (tE X.K te) (own.map (·.2)) σ H Q → W) (go4 : tLockE (tLc (iKeys (tVar i)) g (tT X.K tt) (tE X.K te) (own.map (·.2))) σ H Q → W)
    (h : tE X.K (eLcV i gd tt te (own.map (·.2))) σ H Q) : W := by
  obtain ⟨M, O, env, r, er, e, k⟩ := h
  have hvs : ∀ i ∈ own.map (·.2), i < σ.length := fun i hi => by rw [I.len]; exact own_lt ok hi
  unfold eLcV at e
  split at e
  · rename_i d hd
    cases q : itemsD d with
    | none => rw [q] at e; cases e
    | some ds =>
      rw [q] at e
      simp only [Option.bind_some] at e
      obtain ⟨out, rfl, hl, e2⟩ := lcD_some e
      obtain ⟨v, h1, h2⟩ := er.sl i _ hd
      have ev : eVar i env = some ⟨d, false⟩ := by unfold eVar; rw [hd]
      unfold itemsD at q
      split at q
      · cases q
        exact go1 (lc_read er hvs (fun R' hh => pix_list M O env σ H ds R' er (by unfold srcL; rw [ev]; rfl) hh) hte hl e2 k)
      · cases q
        exact go2 (lc_read er hvs (fun R' hh => pix_tup M O env σ H ds R' er (by unfold srcT; rw [ev]; rfl) hh) hte hl e2 k)
      · rename_i kvs
        cases q
        simp only [DV] at h2
        obtain ⟨a, ws, rfl, h3, h4⟩ := h2
        have na : a ∉ O := (rd_off h3).1
        rcases (rd_off h3).2 with ha | ⟨o, ha⟩
        · refine go4 ⟨a, _, ha, True.intro, fun od => ?_⟩
          have lk := Lk.lock (od := od) ha
          refine lc_read (er.lk lk na) hvs (keys_pw (env := env) (M := M) h1 (by rw [upd_same]) na h4.keys) hte hl e2 fun v' H' s' ok' => ?_
          have hf : H' a = some (.frz od (.dK ws)) := s' _ _ upd_same
          refine ⟨hf, k v' _ (fun b ob hb => ?_) (ok'.lk (.unlock hf) na (fun b hb => (upd_ne hb).symm) fun d hd => ?_)⟩
          · by_cases z : b = a
            · subst z; rw [ha] at hb; cases hb; exact upd_same
            · rw [upd_ne z]; exact s' _ _ (by rw [upd_ne z]; exact hb)
          · rw [hf] at hd
            cases d with
            | lst _ => obtain ⟨_, z, _⟩ := hd; cases z
            | dic _ => obtain ⟨_, z, _⟩ := hd; cases z
            | obj _ _ => obtain ⟨_, _, z, _⟩ := hd; cases z
            | _ => exact hd.elim
        · exact go3 (lc_read er hvs (keys_pw (env := env) (M := M) h1 ha na h4.keys) hte hl e2 k)
      · cases q
  · cases e
theorem ce_lcV {elt tg : Expr} {ifs : List Expr} {i : Nat} {x : Str} {p : Pos} {scope : Scope} {own : List (Str × Nat)} {pos : Pos} {g : TG} {gd : D → En → Option En} {tt : BX} {te : EX} (hc : X.calm = true) (hN : X.N.Nodup) (hv : PE X (.Name x p) (tVar i)) (ok : BlkOk X.N X.env.scope scope own)
    (hg : Blk X scope fun Y => PG Y tg g) (hte : TGe X.K g gd (own.map (·.2))) (ht : Blk X scope fun Y => PTs Y ifs (tT X.K tt)) (he : Blk X scope fun Y => PE Y elt (tE X.K te)) (hs : ∀ y, foldedSetIterable (.Name x p) X.env y = pure y := by intro _; rfl) :
    PE X (.ListComp elt [⟨tg, .Name x p, ifs, 0⟩] scope pos) (tE X.K (eLcV i gd tt te (own.map (·.2)))) := fun pins s σ H Q I h =>
  lcV I ok hte (pe_lc hc hN (pi_list (ce_var hv)) ok hg ht he hs pins s σ H Q I) (pe_lc hc hN (pi_tup (ce_var hv)) ok hg ht he hs pins s σ H Q I)
    (pe_lc hc hN (pi_keys hv) ok hg ht he hs pins s σ H Q I) (pe_lock (pe_lc hc hN (pi_keys hv) ok hg ht he hs) pins s σ H Q I) h
/-- name = [..] -/
theorem set_e {σ : St} {H : Hp} {i : Nat} {xe : EX} {t : TE} {DD : Ends} (h : tS X.K (sSet i xe) DD σ H) (go : ∀ Q : VK, tE X.K xe σ H Q → t σ H Q) : tAsg t (gName i) DD σ H := by
  obtain ⟨M, B, H0, G, env, n, out, u, ⟨O, R⟩, e, k⟩ := h
  unfold sSet at e
  cases q : xe env with
  | none => rw [q] at e; cases e
  | some r =>
    rw [q] at e
    cases e
    exact go _ ⟨M, O, env, r, R.er, q, fun v H' s ok => k _ H' (R.store i u s ok)⟩
theorem cs_setLc {i : Nat} {y : Str} {py : Pos} {elt tg iter : Expr} {ifs : List Expr} {scope : Scope} {own : List (Str × Nat)} {pos spos : Pos} {wi : TI} {src : AX} {g : TG} {gd : D → En → Option En} {tt : BX} {te : EX} (hc : X.calm = true) (hN : X.N.Nodup) (hy : X.N[i]? = some y) (hyl : X.env.scope.names.lookup y = some .local)
    (hsw : swapsWith (.ListComp elt [⟨tg, iter, ifs, 0⟩] scope pos) (some (.Name y py)) spos.line X.env = pure true) (hi : PI X tg iter wi) (pw : PIx X.K wi src) (ok : BlkOk X.N X.env.scope scope own)
    (hg : Blk X scope fun Y => PG Y tg g) (hte : TGe X.K g gd (own.map (·.2))) (ht : Blk X scope fun Y => PTs Y ifs (tT X.K tt)) (he : Blk X scope fun Y => PE Y elt (tE X.K te)) (hs : ∀ x, foldedSetIterable iter X.env x = pure x := by intro _; rfl) :
    PS X (.Assign [.Name y py] (.ListComp elt [⟨tg, iter, ifs, 0⟩] scope pos) spos) (tS X.K (sSet i (eLc src gd tt te (own.map (·.2))))) := fun pins s σ H DD I h =>
  ps_setLc hc hN hy hyl hsw hi ok hg ht he hs pins s σ H DD I (set_e h fun Q => lc_e I pw ok hte)
theorem cs_setLcV {i j : Nat} {y x : Str} {p py : Pos} {elt tg : Expr} {ifs : List Expr} {scope : Scope} {own : List (Str × Nat)} {pos spos : Pos} {g : TG} {gd : D → En → Option En} {tt : BX} {te : EX} (hc : X.calm = true) (hN : X.N.Nodup) (hy : X.N[i]? = some y) (hyl : X.env.scope.names.lookup y = some .local)
    (hsw : swapsWith (.ListComp elt [⟨tg, .Name x p, ifs, 0⟩] scope pos) (some (.Name y py)) spos.line X.env = pure true) (hv : PE X (.Name x p) (tVar j)) (ok : BlkOk X.N X.env.scope scope own)
    (hg : Blk X scope fun Y => PG Y tg g) (hte : TGe X.K g gd (own.map (·.2))) (ht : Blk X scope fun Y => PTs Y ifs (tT X.K tt)) (he : Blk X scope fun Y => PE Y elt (tE X.K te)) (hs : ∀ z, foldedSetIterable (.Name x p) X.env z = pure z := by intro _; rfl) :
    PS X (.Assign [.Name y py] (.ListComp elt [⟨tg, .Name x p, ifs, 0⟩] scope pos) spos) (tS X.K (sSet i (eLcV j gd tt te (own.map (·.2))))) := by
  intro pins s σ H DD I h
  have a1 := ps_setLc hc hN hy hyl hsw (pi_list (ce_var hv)) ok hg ht he hs pins s σ H DD I
  have a2 := ps_setLc hc hN hy hyl hsw (pi_tup (ce_var hv)) ok hg ht he hs pins s σ H DD I
  have a3 := ps_setLc hc hN hy hyl hsw (pi_keys hv) ok hg ht he hs pins s σ H DD I
  have a4 := ps_lock (ps_setLc hc hN hy hyl hsw (pi_keys hv) ok hg ht he hs) pins s σ H DD I
  obtain ⟨M, B, H0, G, env, n, out, u, ⟨O, R⟩, e, k⟩ := h
  unfold sSet at e
  cases q : eLcV j gd tt te (own.map (·.2)) env with
  | none => rw [q] at e; cases e
  | some r =>
    rw [q] at e
    cases e
    refine lcV (Q := fun x H1 => gName i x σ H1 DD.nx) I ok hte a1 a2 a3 (fun hl => a4 ?_) ⟨M, O, env, r, R.er, q, fun v H' s ok => k _ H' (R.store i u s ok)⟩
    obtain ⟨d, u', h1, h2, h3⟩ := hl
    exact ⟨d, u', h1, h2, fun od => h3 od⟩
end
end FW

set_option linter.all false
set_option Elab.async false
set_option maxRecDepth 100000
namespace FW
open PySem L2
section
variable {i j k n m : Nat} {a b : Int} {env : En} {x y : BX} {ex ey : EX} {ax : AX} {s t : SX} {d e : D} {ds es : List D} {kvs : List (Key × D)} {f : D → D → Option D} {g : D → Option D} {h : List D → Option D} {F : List D → Option RV} {gx : GX} {gd : D → En → Option En} {vs : List Nat}
@[simp] theorem srcT_a : srcT ex env = (ex env).bind fun r => match r.d with | .tup ds => some ds | _ => none := rfl
@[simp] theorem srcR_a : srcR ax env = (ax env).bind fun ds => match ds with | [.int n] => rngI n | _ => none := rfl
@[simp] theorem sForV_a : sForV i gd s n env = (match env[i]? with | some (.pu d) => (itemsD d).bind fun ds => loopF gd s n ds env | _ => none) := rfl
@[simp] theorem itemsD_l : itemsD (.lst ds) = some ds := rfl
@[simp] theorem itemsD_t : itemsD (.tup ds) = some ds := rfl
@[simp] theorem itemsD_d : itemsD (.dic kvs) = some (keysD kvs) := rfl
@[simp] theorem eFr_a : eFr h ax env = (ax env).bind fun ds => (h ds).map fun d => ⟨d, true⟩ := rfl
@[simp] theorem fList_l : fList [.lst ds] = some (.lst ds) := rfl
@[simp] theorem fList_d : fList [.dic kvs] = some (.lst (keysD kvs)) := rfl
@[simp] theorem fDict_d : fDict [.dic kvs] = some (.dic kvs) := rfl
@[simp] theorem fSorted_l : fSorted [.lst ds] = (intsD ds).map fun ns => .lst ((srt ns).map D.int) := rfl
@[simp] theorem fSorted_d : fSorted [.dic kvs] = (intsD (keysD kvs)).map fun ns => .lst ((srt ns).map D.int) := rfl
@[simp] theorem fAll_l : fAll [.lst ds] = (blsD ds).map fun bs => .bl (fAll0 bs) := rfl
@[simp] theorem fSum_l : fSum [.lst ds] = (intsD ds).map fun ns => .int ns.sum := rfl
@[simp] theorem gNone_a : gNone env = some [] := rfl
@[simp] theorem gE_a : gE ex gx env = (ex env).bind fun r => (gx env).map fun l => (r.d, false) :: l := rfl
@[simp] theorem gV_a : gV i gx env = (match env[i]? with | some (.pu d) => (gx env).map fun l => (d, false) :: l | some (.mu d) => (gx env).map fun l => (d, true) :: l | some (.bo d) => (gx env).map fun l => (d, true) :: l | _ => none) := rfl
@[simp] theorem eCallB_a : eCallB n F gx env = (gx env).bind fun ds => if ds.length = n then (F (ds.map (·.1))).bind fun r => if sepR ds r then some r else none else none := rfl
@[simp] theorem sCallM_a {F : List D → Option D} : sCallM i k F ax n env = (ownD i env).bind fun c => (ax env).bind fun ds => if ds.length + 1 = k then (F (c :: ds)).map fun c' => .nx (setMu i c' env) else none := rfl
@[simp] theorem sPop_a : sPop i j n env = (ownD j env).bind fun c => match c with | .lst ds => (match ds.getLast? with | some d => some (.nx ((setMu j (.lst ds.dropLast) env).set i (.pu d))) | none => none) | _ => none := rfl
@[simp] theorem sClear_a : sClear i n env = (ownD i env).bind fun c => match c with | .dic _ => some (.nx (setMu i (.dic []) env)) | _ => none := rfl
@[simp] theorem eDisp1_a : eDisp1 x ex env = (x env).bind fun kd => (keyD kd).bind fun k => (ex env).map fun r => ⟨.dic [(k, r.d)], true⟩ := rfl
@[simp] theorem eLc_a : eLc ax gd x ex vs env = (ax env).bind fun ds => lcD gd x ex vs env ds := rfl
@[simp] theorem eLcV_a : eLcV i gd x ex vs env = (match env[i]? with | some (.pu d) => (itemsD d).bind fun ds => lcD gd x ex vs env ds | _ => none) := rfl
@[simp] theorem wipeE_0 : wipeE env [] = env := rfl
@[simp] theorem wipeE_s : wipeE env (i :: vs) = (wipeE env vs).set i .un := rfl
@[simp] theorem keyD_s {c : Str} : keyD (.str c) = some (.inr c) := rfl
@[simp] theorem fIn_a : fIn d e = (inD d e).map .bl := rfl
@[simp] theorem fNotIn_a : fNotIn d e = (inD d e).map fun b => .bl !b := rfl
@[simp] theorem inD_d : inD d (.dic kvs) = (keyD d).map fun k => (valD kvs k).isSome := rfl
@[simp] theorem fIsN_a : fIsN d = some (.bl (isN d)) := rfl
@[simp] theorem fNotN_a : fNotN d = some (.bl (!isN d)) := rfl
@[simp] theorem isN_n : isN .non = true := rfl
@[simp] theorem isN_t : isN (.tup ds) = false := rfl
@[simp] theorem isN_i : isN (.int a) = false := rfl
theorem fnM_a {c : D} : fnM m s n (c :: ds) = (match s n (Sl.bo c :: (ds.map Sl.pu ++ List.replicate (m - (ds.length + 1)) Sl.un)) with | some (.nx e) => boOf e | some (.rt ⟨.non, false⟩ e) => boOf e | _ => none) := rfl
@[simp] theorem boOf_a {c : D} {env : En} : boOf (Sl.bo c :: env) = some c := rfl
theorem lcGo_0 : lcGo gd x ex env [] = some [] := rfl
theorem lcGo_s : lcGo gd x ex env (d :: ds) = (gd d env).bind fun e1 => (x e1).bind fun t => match t with | .bl true => (ex e1).bind fun r => (lcGo gd x ex env ds).map fun l => r.d :: l | .bl false => lcGo gd x ex env ds | _ => none := rfl
/-- a comprehension by what each item gives -/
theorem lcGo_of {p : D → Bool} {w : D → D} (hh : ∀ d ∈ ds, ∃ e1, gd d env = some e1 ∧ x e1 = some (.bl (p d)) ∧ (p d = true → ∃ b, ex e1 = some ⟨w d, b⟩)) : lcGo gd x ex env ds = some ((ds.filter p).map w) := by
  induction ds with
  | nil => rfl
  | cons d ds ih =>
    obtain ⟨e1, h1, h2, h3⟩ := hh d List.mem_cons_self
    have ih' := ih fun c hc => hh c (List.mem_cons_of_mem _ hc)
    rw [lcGo_s, h1]
    simp only [Option.bind_some, h2]
    cases q : p d with
    | true =>
      obtain ⟨b, h4⟩ := h3 q
      simp [h4, ih', q]
    | false => simp [ih', q]
theorem blsD_map {α : Type} {l : List α} {p : α → Bool} : blsD (l.map fun a => .bl (p a)) = some (l.map p) := by
  induction l with
  | nil => rfl
  | cons a l ih => simp [blsD, ih]
end
end FW

set_option linter.all false
set_option Elab.async false
set_option maxRecDepth 100000
namespace FW
open PySem L2
/-! ## zip of two lists -/
def zipD (ds es : List D) : List D := List.zipWith (fun a b => .tup [a, b]) ds es
def srcZ (xs : AX) : AX := fun env => (xs env).bind fun l => match l with
  | [.lst ds, .lst es] => some (zipD ds es)
  | _ => none
/-! ## slices -/
abbrev OX := En → Option (Option Int)
def oNone : OX := fun _ => some none
def oInt (x : BX) : OX := fun env => (x env).bind fun d => match d with
  | .int i => some (some i)
  | _ => none
def cutD (ds : List D) (lo hi : Option Int) : List D := (ds.drop (HT.sIx ds.length 0 lo)).take (HT.sIx ds.length ds.length hi - HT.sIx ds.length 0 lo)
theorem DVs.drop {K : PySem.W.Frag} {H : Hp} : ∀ {ds : List D} {vs : List V} (n : Nat), DVs K H ds vs → DVs K H (ds.drop n) (vs.drop n)
  | ds, vs, 0, h => by simpa using h
  | [], _, n + 1, h => by simp only [DVs] at h; subst h; simp [DVs]
  | d :: ds, _, n + 1, h => by
    simp only [DVs] at h
    obtain ⟨v, r, rfl, _, h2⟩ := h
    simpa using DVs.drop n h2
theorem DVs.take {K : PySem.W.Frag} {H : Hp} : ∀ {ds : List D} {vs : List V} (n : Nat), DVs K H ds vs → DVs K H (ds.take n) (vs.take n)
  | ds, vs, 0, h => by simp [DVs]
  | [], _, n + 1, h => by simp only [DVs] at h; subst h; simp [DVs]
  | d :: ds, _, n + 1, h => by
    simp only [DVs] at h
    obtain ⟨v, r, rfl, h1, h2⟩ := h
    simp only [List.take_succ_cons]
    exact .cons h1 (DVs.take n h2)
theorem DVs.cut {K : PySem.W.Frag} {H : Hp} {ds : List D} {vs : List V} {lo hi : Option Int} (h : DVs K H ds vs) : DVs K H (cutD ds lo hi) (cutV vs lo hi) := by
  unfold cutD cutV
  rw [h.length]
  exact (h.drop _).take _
def eSlice (x : BX) (lo hi : OX) : EX := fun env => (x env).bind fun d => (lo env).bind fun l => (hi env).bind fun h => match d with
  | .lst ds => some ⟨.lst (cutD ds l h), true⟩
  | .tup ds => if HT.sIx ds.length 0 l = 0 ∧ HT.sIx ds.length ds.length h = ds.length then none else some ⟨.tup (cutD ds l h), false⟩
  | _ => none
def tO (K : PySem.W.Frag) (x : OX) : TO := fun σ H Q => ∃ M O env o, ER K M O env σ H ∧ x env = some o ∧ ∀ H', Same H H' → Q o H'
section
variable {X : Cx}
theorem _root_.L2.PO.imp {e : Option Expr} {t t' : TO} (h : PO X e t) (f : ∀ σ H Q, t' σ H Q → t σ H Q) : PO X e t' := fun pins s σ H Q I q => h pins s σ H Q I (f _ _ _ q)
theorem co_none : PO X none (tO X.K oNone) := po_none.imp fun σ H Q ⟨M, O, env, o, er, e, k⟩ => by cases e; exact k H (Same.refl H)
theorem co_int {e : Expr} {x : BX} (h : PE X e (tB X.K x)) : PO X (some e) (tO X.K (oInt x)) := (po_some h).imp fun σ H Q ⟨M, O, env, o, er, e, k⟩ => by
  unfold oInt at e
  cases q : x env with
  | none => rw [q] at e; cases e
  | some d =>
    rw [q] at e
    simp only [Option.bind_some] at e
    split at e
    · cases e
      exact ⟨M, O, env, _, er, q, fun v H' s b => ⟨_, b.int, k H' s⟩⟩
    · cases e
theorem ce_slice {e : Expr} {lo hi : Option Expr} {pos p2 : Pos} {x : BX} {l h : OX} (he : PE X e (tB X.K x)) (hl : PO X lo (tO X.K l)) (hh : PO X hi (tO X.K h)) : PE X (.Subscript e (.Slice lo hi none p2) pos) (tE X.K (eSlice x l h)) :=
  (pe_slice (SlR.or sl_list sl_tup) he hl hh).imp fun σ H Q ⟨M, O, env, r, er, e, k⟩ => by
    unfold eSlice at e
    cases q1 : x env with
    | none => rw [q1] at e; cases e
    | some d =>
      cases q2 : l env with
      | none => rw [q1, q2] at e; cases e
      | some a =>
        cases q3 : h env with
        | none => rw [q1, q2, q3] at e; cases e
        | some b =>
          rw [q1, q2, q3] at e
          simp only [Option.bind_some] at e
          refine ⟨M, O, env, d, er, q1, fun v H1 s1 br => ⟨M, O, env, a, er.mono s1, q2, fun H2 s2 => ⟨M, O, env, b, (er.mono s1).mono s2, q3, fun H3 s3 => ?_⟩⟩⟩
          have br3 := (br.mono s2).mono s3
          have sm := (s1.trans s2).trans s3
          have er3 := er.mono sm
          split at e
          · cases e
            obtain ⟨p, vs, rfl, h1, h2⟩ := br3.lst
            refine .inl ⟨p, vs, rfl, h1, fun p' hp' => ?_⟩
            have np : p' ∉ O := fun z => er3.dom p' z hp'
            have c1 : Cont X.K (off (upd H3 p' (.lst (cutV vs a b))) (p' :: O)) (some (.lst (cutV vs a b))) (.lst (cutD _ a b)) := ⟨_, rfl, h2.cut.mono (off_new (same_upd hp') hp')⟩
            refine k _ _ (sm.trans (same_upd hp')) ⟨?_, fun _ => ⟨p', rfl, sm.free hp', by rw [upd_same]; exact c1⟩⟩
            simp only [DV]
            exact ⟨p', _, rfl, .of (off_some.mpr ⟨np, upd_same⟩), h2.cut.mono (off_mono (same_upd hp'))⟩
          · split at e
            · cases e
            · rename_i ds hne
              cases e
              obtain ⟨p, vs, rfl, h1, h2⟩ := br3.tup
              refine .inr ⟨p, vs, rfl, h1, by rw [h2.length]; exact hne, fun p' hp' => ?_⟩
              have np : p' ∉ O := fun z => er3.dom p' z hp'
              refine k _ _ (sm.trans (same_upd hp')) ⟨?_, fun z => by cases z⟩
              simp only [DV]
              exact ⟨p', _, rfl, .of (off_some.mpr ⟨np, upd_same⟩), h2.cut.mono (off_mono (same_upd hp'))⟩
          · cases e
end
/-! ## min and max of a list of whole numbers -/
def maxI : List Int → Int
  | [] => 0
  | [a] => a
  | a :: b :: l => max a (maxI (b :: l))
def minI : List Int → Int
  | [] => 0
  | [a] => a
  | a :: b :: l => min a (minI (b :: l))
theorem maxI_ok : ∀ {l : List Int}, l ≠ [] → maxI l ∈ l ∧ ∀ y ∈ l, y ≤ maxI l
  | [a], _ => by simp [maxI]
  | a :: b :: l, _ => by
    obtain ⟨h1, h2⟩ := maxI_ok (l := b :: l) (by simp)
    rw [maxI]
    refine ⟨?_, fun y hy => ?_⟩
    · rcases Int.le_total a (maxI (b :: l)) with h | h
      · rw [Int.max_eq_right h]; exact List.mem_cons_of_mem _ h1
      · rw [Int.max_eq_left h]; exact List.mem_cons_self
    · rcases List.mem_cons.mp hy with rfl | hy
      · omega
      · have := h2 y hy; omega
theorem minI_ok : ∀ {l : List Int}, l ≠ [] → minI l ∈ l ∧ ∀ y ∈ l, minI l ≤ y
  | [a], _ => by simp [minI]
  | a :: b :: l, _ => by
    obtain ⟨h1, h2⟩ := minI_ok (l := b :: l) (by simp)
    rw [minI]
    refine ⟨?_, fun y hy => ?_⟩
    · rcases Int.le_total a (minI (b :: l)) with h | h
      · rw [Int.min_eq_left h]; exact List.mem_cons_self
      · rw [Int.min_eq_right h]; exact List.mem_cons_of_mem _ h1
    · rcases List.mem_cons.mp hy with rfl | hy
      · omega
      · have := h2 y hy; omega
def fMaxL : List D → Option D
  | [.lst ds] => (intsD ds).bind fun ns => if ns = [] then none else some (.int (maxI ns))
  | _ => none
def fMinL : List D → Option D
  | [.lst ds] => (intsD ds).bind fun ns => if ns = [] then none else some (.int (minI ns))
  | _ => none
end FW

set_option linter.all false
set_option Elab.async false
set_option maxRecDepth 100000
namespace FW
open PySem L2
/-! ## constants of a module -/
def GK (K : PySem.W.Frag) (mg : Str → Option Value) (x : Str) (d : D) : Prop := ∃ v u, mg x = some u ∧ RelV v u ∧ ∀ H, DV K H d v
def eK (d : D) : EX := fun _ => some ⟨d, false⟩
@[simp] theorem eK_a {d : D} {env : En} : eK d env = some ⟨d, false⟩ := rfl
theorem ce_glob {X : Cx} {x : Str} {d : D} {pos : Pos} (hg : Gl X x) (h : GK X.K X.mg x d) (hd : (x == ("__debug__" : Str)) = false := by decide) : PE X (.Name x pos) (tE X.K (eK d)) := by
  obtain ⟨v, u, hm, r, dv⟩ := h
  exact (pe_glob hg hm r hd).imp fun σ H Q ⟨M, O, env, r', er, e, k⟩ => by
    cases e
    exact k v H (Same.refl H) ⟨dv _, fun z => by cases z⟩
theorem gk_int {K : PySem.W.Frag} {h : Heap} {mg : Str → Option Value} {x : Str} {i : Int} {t : Tok} (X : K.In h) (G : h.Ns mainGlobals mg) (e : PySem.W.nsIn K mainGlobals x = some (some (.int i t))) : GK K mg x (.int i) :=
  ⟨.int i, _, PySem.W.mg_of X G e, ⟨t, rfl⟩, fun H => by simp only [DV]⟩
theorem vals_ints : ∀ (ns : List Int) (ts : List Tok), ns.length = ts.length → Vals (ns.map V.int) (List.zipWith Value.int ns ts)
  | [], [], _ => .nil
  | n :: ns, t :: ts, h => .cons ⟨t, rfl⟩ (vals_ints ns ts (by simpa using h))
end FW

set_option linter.all false
set_option Elab.async false
set_option maxRecDepth 100000
set_option maxHeartbeats 4000000
namespace FW
open PySem L2
/-! ## what is never reached -/
def sNever : SX := fun _ _ => none
theorem cs_never {X : Cx} {st : Stmt} : PS X st (tS X.K sNever) := ps_never.imp fun D σ H ⟨M, B, H0, G, env, n, out, u, R, e, k⟩ => by cases e
/-! ## min and max of lists, tuples, dicts of whole numbers -/
section
open PyProof.Rows
variable {prog : Program} {w : World} {A : Around} {E : Value → Shared → Prop} {s : Shared} {l : Addr} {its : List Value} {ns : List Int} {Q : Value → Shared → Prop}
end
section
variable {X : Cx}
/-- a walked thing of whole numbers -/
def rMaxT (K : PySem.W.Frag) : List V → Hp → VK → Prop := fun vs H Q => ∃ (a : Addr) (ns : List Int), vs = [V.ref a] ∧ (SqL K H a (ns.map V.int) ∨ SqT K H a (ns.map V.int)) ∧ ns ≠ [] ∧ ∀ m, m ∈ ns → (∀ y, y ∈ ns → y ≤ m) → Q (.int m) H
def rMinT (K : PySem.W.Frag) : List V → Hp → VK → Prop := fun vs H Q => ∃ (a : Addr) (ns : List Int), vs = [V.ref a] ∧ (SqL K H a (ns.map V.int) ∨ SqT K H a (ns.map V.int)) ∧ ns ≠ [] ∧ ∀ m, m ∈ ns → (∀ y, y ∈ ns → m ≤ y) → Q (.int m) H
def numsD : D → Option (List Int)
  | .lst ds => intsD ds
  | .tup ds => intsD ds
  | _ => none
def fMaxS : List D → Option D
  | [c] => (numsD c).bind fun ns => if ns = [] then none else some (.int (maxI ns))
  | _ => none
def fMinS : List D → Option D
  | [c] => (numsD c).bind fun ns => if ns = [] then none else some (.int (minI ns))
  | _ => none
theorem max_uniq {ns : List Int} {m : Int} (hne : ns ≠ []) (h1 : m ∈ ns) (h2 : ∀ y ∈ ns, y ≤ m) : m = maxI ns := Int.le_antisymm ((maxI_ok hne).2 m h1) (h2 _ (maxI_ok hne).1)
theorem min_uniq {ns : List Int} {m : Int} (hne : ns ≠ []) (h1 : m ∈ ns) (h2 : ∀ y ∈ ns, m ≤ y) : m = minI ns := Int.le_antisymm (h2 _ (minI_ok hne).1) ((minI_ok hne).2 m h1)
variable {e : Expr} {p pos : Pos} {xs : AX}
end
/-! ## the shortest of lists -/
def lenD : D → Option Nat
  | .lst es => some es.length
  | _ => none
def IsMin (ds : List D) (i : Nat) : Prop := ∃ ls : List Nat, ds.map lenD = ls.map some ∧ i < ls.length ∧ ∀ j, j < ls.length → ls.getD i 0 ≤ ls.getD j 0 ∧ (j < i → ls.getD i 0 < ls.getD j 0)
theorem IsMin.uniq {ds : List D} {i j : Nat} (h : IsMin ds i) (h' : IsMin ds j) : i = j := by
  obtain ⟨ls, e, hi, a⟩ := h
  obtain ⟨ls', e', hj, b⟩ := h'
  have : ls = ls' := by
    have q := e.symm.trans e'
    clear e e' hi hj a b
    induction ls generalizing ls' with
    | nil => cases ls' with
      | nil => rfl
      | cons => simp at q
    | cons x l ih => cases ls' with
      | nil => simp at q
      | cons y l' =>
        simp only [List.map_cons, List.cons.injEq, Option.some.injEq] at q
        rw [q.1, ih _ q.2]
  subst this
  rcases Nat.lt_trichotomy i j with c | c | c
  · have h1 := (b i hi).2 c
    have h2 := (a j hj).1
    omega
  · exact c
  · have h1 := (a j hj).2 c
    have h2 := (b i hi).1
    omega
open Classical in
noncomputable def minLen (ds : List D) : Option D := if h : ∃ i, IsMin ds i then ds[Classical.choose h]? else none
noncomputable def eMinLen (x : BX) : EX := fun env => (x env).bind fun c => match c with
  | .lst ds => (minLen ds).map fun d => ⟨d, false⟩
  | _ => none
@[simp] theorem eMinLen_a {x : BX} {env : En} : eMinLen x env = (x env).bind fun c => match c with | .lst ds => (minLen ds).map fun d => ⟨d, false⟩ | _ => none := rfl
section
variable {X : Cx} {e : Expr} {p p2 kp pos : Pos} {x : BX}
end
end FW

set_option linter.all false
set_option Elab.async false
set_option maxRecDepth 100000
set_option maxHeartbeats 4000000
namespace FW
open PySem L2 PySem.Spec PyProof.Rows
/-! ## an entry goes -/
def dropD (kvs : List (Key × D)) (k : Key) : List (Key × D) := kvs.filter fun kv => decide (kv.1 ≠ k)
theorem DVk.drop {K : PySem.W.Frag} {H : Hp} {ky : Key} : ∀ {ds : List (Key × D)} {ws : List (Key × V)}, DVk K H ds ws → DVk K H (dropD ds ky) (dropK ws ky)
  | [], _, h => by simp only [DVk] at h; subst h; simp [dropD, dropK, DVk]
  | (k0, d0) :: ds, _, h => by
    simp only [DVk, DVp] at h
    obtain ⟨w, r, rfl, h1, h2⟩ := h
    have ih := DVk.drop (ky := ky) h2
    unfold dropD dropK at ih ⊢
    by_cases e : k0 = ky
    · simp only [List.filter_cons, e, ne_eq, not_true, decide_false, Bool.false_eq_true, if_false]
      exact ih
    · simp only [List.filter_cons, ne_eq, e, not_false_eq_true, decide_true, if_true, DVk, DVp]
      exact ⟨w, _, rfl, h1, ih⟩
def sDdel (i : Nat) (k : BX) : SX := fun _ env => (ownD i env).bind fun c => match c with
  | .dic kvs => (k env).bind fun kd => (keyD kd).bind fun ky => if (valD kvs ky).isSome then some (.nx (setMu i (.dic (dropD kvs ky)) env)) else none
  | _ => none
@[simp] theorem sDdel_a {i n : Nat} {k : BX} {env : En} : sDdel i k n env = (ownD i env).bind fun c => match c with | .dic kvs => (k env).bind fun kd => (keyD kd).bind fun ky => if (valD kvs ky).isSome then some (.nx (setMu i (.dic (dropD kvs ky)) env)) else none | _ => none := rfl
section
variable {X : Cx}
end
/-! ## an entry's number changes -/
def sDaug (g : Int → Int → Int) (i : Nat) (k x : BX) : SX := fun _ env => (ownD i env).bind fun c => match c with
  | .dic kvs => (k env).bind fun kd => (keyD kd).bind fun ky => match valD kvs ky with
    | some (.int a) => (x env).bind fun d => match d with
      | .int b => if kvs.length < lim then some (.nx (setMu i (.dic (putD kvs ky (.int (g a b)))) env)) else none
      | _ => none
    | _ => none
  | _ => none
@[simp] theorem sDaug_a {g : Int → Int → Int} {i n : Nat} {k x : BX} {env : En} : sDaug g i k x n env = (ownD i env).bind fun c => match c with
  | .dic kvs => (k env).bind fun kd => (keyD kd).bind fun ky => match valD kvs ky with
    | some (.int a) => (x env).bind fun d => match d with
      | .int b => if kvs.length < lim then some (.nx (setMu i (.dic (putD kvs ky (.int (g a b)))) env)) else none
      | _ => none
    | _ => none
  | _ => none := rfl
section
variable {X : Cx}
end
/-! ## an entry, or what stands in for it -/
def eGet2 (a k x : BX) : EX := fun env => (a env).bind fun c => (k env).bind fun kd => (x env).bind fun dd => match c with
  | .dic kvs => (keyD kd).bind fun ky => if dd.at then some ⟨(valD kvs ky).getD dd, false⟩ else none
  | _ => none
@[simp] theorem eGet2_a {a k x : BX} {env : En} : eGet2 a k x env = (a env).bind fun c => (k env).bind fun kd => (x env).bind fun dd => match c with
  | .dic kvs => (keyD kd).bind fun ky => if dd.at then some ⟨(valD kvs ky).getD dd, false⟩ else none
  | _ => none := rfl
/-! ## a list from its end on -/
def eRev (x : BX) : EX := fun env => (x env).bind fun c => match c with
  | .lst ds => some ⟨.lst ds.reverse, true⟩
  | _ => none
@[simp] theorem eRev_a {x : BX} {env : En} : eRev x env = (x env).bind fun c => match c with | .lst ds => some ⟨.lst ds.reverse, true⟩ | _ => none := rfl
theorem DVs.reverse {K : PySem.W.Frag} {H : Hp} : ∀ {ds : List D} {vs : List V}, DVs K H ds vs → DVs K H ds.reverse vs.reverse
  | [], _, h => by simp only [DVs] at h; subst h; simp [DVs]
  | d :: ds, _, h => by
    simp only [DVs] at h
    obtain ⟨v, r, rfl, h1, h2⟩ := h
    simp only [List.reverse_cons]
    exact (DVs.reverse h2).append (.one h1)
section
variable {X : Cx} {e st : Expr} {te : TE} {p2 pos : Pos}
end
end FW

set_option linter.all false
set_option Elab.async false
set_option maxRecDepth 100000
/-! webs as lists of pairs -/
namespace FW
open PySem L2
abbrev Wb := List (Int × Int)
def dw (w : Wb) : List (Key × D) := w.map fun p => (Sum.inl p.1, D.int p.2)
def putI (w : Wb) (k v : Int) : Wb := if (w.any fun p => decide (p.1 = k)) = true then w.map (fun p => if p.1 = k then (p.1, v) else p) else w ++ [(k, v)]
def valI (w : Wb) (k : Int) : Option Int := (w.find? fun p => decide (p.1 = k)).map (·.2)
abbrev keysI (w : Wb) : List Int := w.map (·.1)
theorem dw_len {w : Wb} : (dw w).length = w.length := by simp [dw]
theorem keysD_dw {w : Wb} : keysD (dw w) = (keysI w).map D.int := by simp [keysD, dw, keysI, kD, List.map_map, Function.comp_def]
theorem inl_eq {a b : Int} : ((Sum.inl a : Key) = Sum.inl b) ↔ a = b := ⟨fun h => by cases h; rfl, fun h => by rw [h]⟩
theorem putD_dw {w : Wb} {k v : Int} : putD (dw w) (.inl k) (.int v) = dw (putI w k v) := by
  unfold putD putI
  have e : ((dw w).any fun kv => decide (kv.1 = Sum.inl k)) = (w.any fun p => decide (p.1 = k)) := by
    simp only [dw, List.any_map, Function.comp_def, inl_eq]
  rw [e]
  split
  · simp only [dw, List.map_map, Function.comp_def]
    refine List.map_congr_left fun p _ => ?_
    by_cases h : p.1 = k
    · simp [h]
    · simp [h]
  · simp [dw]
theorem valD_dw {w : Wb} {k : Int} : valD (dw w) (.inl k) = (valI w k).map D.int := by
  unfold valD valI
  induction w with
  | nil => rfl
  | cons p w ih =>
    simp only [dw, List.map_cons, List.find?_cons]
    by_cases h : p.1 = k
    · simp [h]
    · simp only [inl_eq, h, decide_false]
      exact ih
theorem any_key {w : Wb} {k : Int} : (w.any fun p => decide (p.1 = k)) = true ↔ k ∈ keysI w := by
  simp only [List.any_eq_true, decide_eq_true_eq, keysI, List.mem_map]
theorem putI_keys {w : Wb} {k v : Int} : keysI (putI w k v) = if k ∈ keysI w then keysI w else keysI w ++ [k] := by
  unfold putI
  by_cases h : k ∈ keysI w
  · rw [if_pos (any_key.mpr h), if_pos h]
    simp only [keysI, List.map_map, Function.comp_def]
    refine List.map_congr_left fun p _ => ?_
    split <;> rfl
  · rw [if_neg (fun z => h (any_key.mp z)), if_neg h]
    simp [keysI]
theorem putI_nodup {w : Wb} {k v : Int} (h : (keysI w).Nodup) : (keysI (putI w k v)).Nodup := by
  rw [putI_keys]
  split
  · exact h
  · rename_i hk
    rw [List.nodup_append]
    exact ⟨h, by simp, fun a ha b hb => by simp at hb; subst hb; exact fun z => hk (z ▸ ha)⟩
theorem putI_new {w : Wb} {k v : Int} (h : k ∉ keysI w) : putI w k v = w ++ [(k, v)] := by
  unfold putI
  rw [if_neg fun z => h (any_key.mp z)]
theorem putI_len {w : Wb} {k v : Int} : (putI w k v).length ≤ w.length + 1 := by
  unfold putI
  split <;> simp
theorem mem_putI {w : Wb} {k v j : Int} : j ∈ keysI (putI w k v) ↔ j = k ∨ j ∈ keysI w := by
  rw [putI_keys]
  split
  · rename_i h
    constructor
    · exact .inr
    · rintro (rfl | h') <;> assumption
  · simp [or_comm]
theorem valI_of {w : Wb} {k v : Int} (nd : (keysI w).Nodup) (h : (k, v) ∈ w) : valI w k = some v := by
  induction w with
  | nil => simp at h
  | cons p w ih =>
    simp only [keysI, List.map_cons, List.nodup_cons] at nd
    unfold valI
    simp only [List.find?_cons]
    rcases List.mem_cons.mp h with rfl | h
    · simp
    · have : p.1 ≠ k := fun z => nd.1 (List.mem_map.mpr ⟨(k, v), h, z.symm⟩)
      simp only [this, decide_false]
      exact ih nd.2 h
theorem valI_none {w : Wb} {k : Int} : valI w k = none ↔ k ∉ keysI w := by
  unfold valI
  simp only [Option.map_eq_none_iff, List.find?_eq_none, decide_eq_true_eq, keysI, List.mem_map]
  constructor
  · rintro h ⟨p, hp, e⟩; exact h p hp e
  · intro h p hp e; exact h ⟨p, hp, e⟩
theorem valI_isSome {w : Wb} {k : Int} : (valI w k).isSome = decide (k ∈ keysI w) := by
  by_cases h : k ∈ keysI w
  · rw [decide_eq_true h]
    cases q : valI w k with
    | none => exact absurd h (valI_none.mp q)
    | some _ => rfl
  · rw [decide_eq_false h, valI_none.mpr h]; rfl
theorem valI_put {w : Wb} {k v j : Int} : valI (putI w k v) j = if j = k then some v else valI w j := by
  unfold putI
  split
  · rename_i ha
    induction w with
    | nil => simp at ha
    | cons p w ih =>
      simp only [List.map_cons]
      by_cases hp : p.1 = k
      · simp only [hp, if_true]
        by_cases hj : j = k
        · subst hj; simp [valI]
        · have : ¬ k = j := fun z => hj z.symm
          simp only [hj, if_false]
          unfold valI
          simp only [List.find?_cons, this, hp, decide_false]
          clear ih ha hp
          induction w with
          | nil => rfl
          | cons q w ih2 =>
            simp only [List.map_cons, List.find?_cons]
            by_cases hq : q.1 = k
            · simp only [hq, if_true, this, decide_false]
              exact ih2
            · simp only [hq, if_false]
              by_cases hq2 : q.1 = j
              · simp [hq2]
              · simp only [hq2, decide_false]; exact ih2
      · simp only [hp, if_false]
        have ha' : (w.any fun p => decide (p.1 = k)) = true := by simpa [hp] using ha
        have ih' := ih ha'
        unfold valI at ih' ⊢
        simp only [List.find?_cons]
        by_cases hpj : p.1 = j
        · have : ¬ j = k := fun z => hp (hpj.trans z)
          simp [hpj, this]
        · simp only [hpj, decide_false]
          exact ih'
  · rename_i ha
    by_cases hj : j = k
    · subst hj
      have : valI w j = none := valI_none.mpr fun z => ha (any_key.mpr z)
      unfold valI at this ⊢
      simp only [Option.map_eq_none_iff] at this
      simp [List.find?_append, this]
    · have : ¬ k = j := fun z => hj z.symm
      simp only [hj, if_false]
      unfold valI
      simp [List.find?_append, this]
/-- a corner -/
def put3 (w : Wb) (a b c : Int) : Wb := putI (putI (putI w a b) b c) c a
theorem put3_len {w : Wb} {a b c : Int} : (put3 w a b c).length ≤ w.length + 3 := by
  have h1 := putI_len (w := w) (k := a) (v := b)
  have h2 := putI_len (w := putI w a b) (k := b) (v := c)
  have h3 := putI_len (w := putI (putI w a b) b c) (k := c) (v := a)
  unfold put3
  omega
theorem put3_nodup {w : Wb} {a b c : Int} (h : (keysI w).Nodup) : (keysI (put3 w a b c)).Nodup := putI_nodup (putI_nodup (putI_nodup h))
theorem mem_put3 {w : Wb} {a b c j : Int} : j ∈ keysI (put3 w a b c) ↔ j = c ∨ j = b ∨ j = a ∨ j ∈ keysI w := by
  unfold put3
  rw [mem_putI, mem_putI, mem_putI]
theorem put3_val {w : Wb} {a b c j : Int} : valI (put3 w a b c) j = if j = c then some a else if j = b then some c else if j = a then some b else valI w j := by
  unfold put3
  rw [valI_put, valI_put, valI_put]
/-! sets of numbers, as dicts that lead to True -/
def db (s : List Int) : List (Key × D) := s.map fun k => (Sum.inl k, D.bl true)
def addI (s : List Int) (k : Int) : List Int := if k ∈ s then s else s ++ [k]
theorem valD_db {s : List Int} {k : Int} : (valD (db s) (.inl k)).isSome = decide (k ∈ s) := by
  unfold valD
  induction s with
  | nil => rfl
  | cons x s ih =>
    simp only [db, List.map_cons, List.find?_cons, inl_eq]
    by_cases h : x = k
    · simp [h]
    · have h' : ¬ k = x := fun z => h z.symm
      simp only [h, decide_false, List.mem_cons, h', false_or]
      exact ih
/-! loops -/
theorem loopF_inv {gd : D → En → Option En} {b : SX} {n : Nat} (P : Nat → En → Prop) {ds : List D} {env : En} (h0 : P 0 env) (hs : ∀ (i : Nat) (d : D) (e : En), ds[i]? = some d → P i e → ∃ e1 e2, gd d e = some e1 ∧ (b n e1 = some (.nx e2) ∨ b n e1 = some (.ct e2)) ∧ P (i + 1) e2) :
    ∃ e, loopF gd b n ds env = some (.nx e) ∧ P ds.length e := by
  induction ds generalizing env P with
  | nil => exact ⟨env, rfl, h0⟩
  | cons d ds ih =>
    obtain ⟨e1, e2, h1, h2, h3⟩ := hs 0 d env (by simp) h0
    obtain ⟨e, h4, h5⟩ := ih (fun i => P (i + 1)) h3 fun i d' e hi hp => hs (i + 1) d' e (by simpa using hi) hp
    refine ⟨e, ?_, by simpa using h5⟩
    rw [loopF, h1]
    simp only [Option.bind_some]
    rcases h2 with h2 | h2 <;> (rw [h2]; exact h4)
theorem rngD_get {n i : Nat} {d : D} (h : (rngD n)[i]? = some d) : i < n ∧ d = .int (i : Int) := by
  unfold rngD at h
  rw [List.getElem?_map] at h
  by_cases hi : i < n
  · rw [List.getElem?_range hi] at h
    cases h
    exact ⟨hi, rfl⟩
  · rw [List.getElem?_eq_none (by simpa using hi)] at h; cases h
end FW
namespace FW
open PySem L2
section
variable {s t : SX} {n m i : Nat} {env e : En} {o : Out} {src : AX} {gd : D → En → Option En} {ds : List D} {d : D} {r : RV} {x : BX} {ex : EX}
theorem sSeq_nx (h : s n env = some (.nx e)) : sSeq s t n env = t n e := by rw [sSeq_a, h]; rfl
theorem sFor_of (h1 : src env = some ds) (h2 : loopF gd s n ds env = some o) : sFor src gd s n env = some o := by rw [sFor_a, h1]; exact h2
theorem sForV_of {c : D} (h0 : env[i]? = some (.pu c)) (h1 : itemsD c = some ds) (h2 : loopF gd s n ds env = some o) : sForV i gd s n env = some o := by rw [sForV_a, h0]; simp only [h1, Option.bind_some]; exact h2
theorem sRetV_m (h : env[i]? = some (.mu d)) : sRetV i n env = some (.rt ⟨d, true⟩ env) := by rw [sRetV_a, h]
theorem sSet_of (h : ex env = some r) : sSet i ex n env = some (.nx (env.set i (slotOf r))) := by rw [sSet_a, h]; rfl
theorem sIf_t (h : x env = some (.bl true)) : sIf x s t n env = s n env := by rw [sIf_a, h]; rfl
theorem sIf_f (h : x env = some (.bl false)) : sIf x s t n env = t n env := by rw [sIf_a, h]; rfl
theorem fnD_rt (h : s n (ds.map Sl.pu ++ List.replicate (m - ds.length) Sl.un) = some (.rt r e)) : fnD m s n ds = some r := by rw [fnD_a, h]
theorem srcR_of {n : Nat} (h : x env = some (.int (n : Int))) (hn : n < 1000000000) : srcR (abCons x aNil) env = some (rngD n) := by
  have e : abCons x aNil env = some [.int (n : Int)] := by rw [abCons_a, h]; rfl
  unfold srcR
  rw [e]
  simp only [Option.bind_some]
  exact rngI_of hn
end
end FW

set_option linter.all false
set_option Elab.async false
set_option maxRecDepth 100000
set_option maxHeartbeats 4000000
namespace FA
open PySem L2 FW
def S_common_divisor : SX := sSeq (sSet 0 (eB (bn fAbs (abCons (bVar 0) aNil)))) (sSeq (sSet 1 (eB (bn fAbs (abCons (bVar 1) aNil)))) (sSeq (sWhile (b2 fGt (bVar 1) (cst (.int 0))) (sPar 0 1 (aCons (eVar 1) (aCons (eB (b2 fMod (bVar 0) (bVar 1))) aNil)))) (sRetV 0)))
def S_amount (F_common_divisor : List D → Option RV) : SX := sSeq (sSet 2 (eCallN 2 F_common_divisor (aCons (eVar 0) (aCons (eVar 1) aNil)))) (sSeq (sIf (b2 fLt (bVar 1) (cst (.int 0))) (sSet 2 (eB (b1 fNeg (bVar 2)))) sNext) (sRet (eTup (aCons (eB (b2 fDiv (bVar 0) (bVar 2))) (aCons (eB (b2 fDiv (bVar 1) (bVar 2))) aNil)))))
def S_law_seed : SX := sSeq (sIf (b2 fGe (bVar 0) (b2 fPow (cst (.int 10)) (cst (.int 18)))) (sRetV 0) sNext) (sSeq (sSet 1 (eB (b2 fMod (b2 fMul (b2 fMod (b2 fAdd (b2 fMul (bVar 0) (cst (.int 48271))) (cst (.int 7919))) (cst (.int 2147483647))) (cst (.int 16807))) (cst (.int 2147483629))))) (sSeq (sSet 2 (eB (b2 fMod (b2 fMul (b2 fMod (b2 fAdd (b2 fMul (bVar 0) (cst (.int 69621))) (cst (.int 104729))) (cst (.int 2147483587))) (cst (.int 40692))) (cst (.int 2147483399))))) (sRet (eB (b2 fAdd (b2 fMul (bVar 1) (cst (.int 2147483399))) (bVar 2))))))
def S_law_digits (F_law_seed : List D → Option RV) : SX := sSeq (sSet 2 (eCallN 1 F_law_seed (aCons (eVar 0) aNil))) (sSeq (sSet 3 (eLst aNil)) (sSeq (sFor (srcEn (eVar 1)) (gdSeq [4, 5]) (sSeq (sIf (b2 fLt (bVar 2) (bVar 5)) (sSet 2 (eCallN 1 F_law_seed (aCons (eB (b2 fAdd (b2 fAdd (bVar 2) (b2 fMul (cst (.int 131)) (bVar 4))) (b2 fMod (bVar 0) (cst (.int 1009))))) aNil))) sNext) (sSeq (sAppend 3 (eB (b2 fMod (bVar 2) (bVar 5)))) (sSet 2 (eB (b2 fDiv (bVar 2) (bVar 5))))))) (sRetV 3)))
def S_law_number (F_law_digits : List D → Option RV) : SX := sSeq (sAsg (eCallN 2 F_law_digits (aCons (eVar 0) (aCons (eLst (aCons (eB (b2 fPow (cst (.int 10)) (cst (.int 9)))) (aCons (eB (b2 fPow (cst (.int 10)) (cst (.int 50)))) (aCons (eB (cst (.int 5))) (aCons (eB (cst (.int 2))) aNil))))) aNil))) (gdSeq [2, 3, 4, 5])) (sSeq (sSet 1 (eIx (bE (eLst (aCons (eB (b2 fMod (bVar 2) (cst (.int 10)))) (aCons (eB (b2 fMod (bVar 2) (cst (.int 1000)))) (aCons (eVar 2) (aCons (eVar 3) (aCons (eB (b2 fSub (b2 fSub (b2 fPow (cst (.int 10)) (cst (.int 60))) (cst (.int 1))) (b2 fMod (bVar 2) (cst (.int 4))))) aNil))))))) (bVar 4))) (sSeq (sIf (b2 fEq (bVar 5) (cst (.int 1))) (sRet (eB (b2 fSub (cst (.int 0)) (bVar 1)))) sNext) (sRetV 1)))
def S_law_cell : SX := sSeq (sIf (b2 fLt (bVar 1) (bn fLen (abCons (bVar 0) aNil))) (sRet (eIx (bVar 0) (bVar 1))) sNext) (sRet (eB (cst (.int 0))))
def S_law_whole : SX := sRet (eB (bAnd (b1 (fIs "int") (bVar 0)) (bNot (b1 (fIs "bool") (bVar 0)))))
def S_law_gcd : SX := sSeq (sWhile (b2 fGt (bVar 1) (cst (.int 0))) (sPar 0 1 (aCons (eVar 1) (aCons (eB (b2 fMod (bVar 0) (bVar 1))) aNil)))) (sRetV 0)
def S_law_is_amount (F_law_whole : List D → Option RV) (F_law_gcd : List D → Option RV) : SX := sSeq (sIf (bOr (bNot (b1 (fIs "tuple") (bVar 0))) (b2 fNe (bn fLen (abCons (bVar 0) aNil)) (cst (.int 2)))) (sRet (eB (cst (.bl false)))) sNext) (sSeq (sIf (bOr (bNot (bE (eCallN 1 F_law_whole (aCons (eIx (bVar 0) (cst (.int 0))) aNil)))) (bOr (bNot (bE (eCallN 1 F_law_whole (aCons (eIx (bVar 0) (cst (.int 1))) aNil)))) (b2 fLt (bE (eIx (bVar 0) (cst (.int 1)))) (cst (.int 1))))) (sRet (eB (cst (.bl false)))) sNext) (sRet (eB (b2 fEq (bE (eCallN 2 F_law_gcd (aCons (eB (bn fAbs (abCons (bE (eIx (bVar 0) (cst (.int 0)))) aNil))) (aCons (eIx (bVar 0) (cst (.int 1))) aNil)))) (cst (.int 1))))))
def S_plus (F_amount : List D → Option RV) : SX := sRet (eCallN 2 F_amount (aCons (eB (b2 fAdd (b2 fMul (bE (eIx (bVar 0) (cst (.int 0)))) (bE (eIx (bVar 1) (cst (.int 1))))) (b2 fMul (bE (eIx (bVar 1) (cst (.int 0)))) (bE (eIx (bVar 0) (cst (.int 1))))))) (aCons (eB (b2 fMul (bE (eIx (bVar 0) (cst (.int 1)))) (bE (eIx (bVar 1) (cst (.int 1)))))) aNil)))
def S_minus (F_amount : List D → Option RV) : SX := sRet (eCallN 2 F_amount (aCons (eB (b2 fSub (b2 fMul (bE (eIx (bVar 0) (cst (.int 0)))) (bE (eIx (bVar 1) (cst (.int 1))))) (b2 fMul (bE (eIx (bVar 1) (cst (.int 0)))) (bE (eIx (bVar 0) (cst (.int 1))))))) (aCons (eB (b2 fMul (bE (eIx (bVar 0) (cst (.int 1)))) (bE (eIx (bVar 1) (cst (.int 1)))))) aNil)))
def S_times (F_amount : List D → Option RV) : SX := sRet (eCallN 2 F_amount (aCons (eB (b2 fMul (bE (eIx (bVar 0) (cst (.int 0)))) (bVar 1))) (aCons (eIx (bVar 0) (cst (.int 1))) aNil)))
def S_law_lowest (F_law_gcd : List D → Option RV) : SX := sSeq (sIf (b2 fLt (bVar 1) (cst (.int 0))) (sPar 0 1 (aCons (eB (b2 fSub (cst (.int 0)) (bVar 0))) (aCons (eB (b2 fSub (cst (.int 0)) (bVar 1))) aNil))) sNext) (sSeq (sSet 2 (eCallN 2 F_law_gcd (aCons (eB (bn fAbs (abCons (bVar 0) aNil))) (aCons (eVar 1) aNil)))) (sRet (eTup (aCons (eB (b2 fDiv (bVar 0) (bVar 2))) (aCons (eB (b2 fDiv (bVar 1) (bVar 2))) aNil)))))
def S_law_drawn_amount (F_law_number : List D → Option RV) (F_law_lowest : List D → Option RV) : SX := sSeq (sSet 2 (eCallN 1 F_law_number (aCons (eVar 1) aNil))) (sSeq (sIf (b2 fEq (bVar 2) (cst (.int 0))) (sSet 2 (eB (cst (.int 1)))) sNext) (sFrz 2 (sRet (eCallN 2 F_law_lowest (aCons (eCallN 1 F_law_number (aCons (eVar 0) aNil)) (aCons (eVar 2) aNil))))))
def S_below : SX := sRet (eB (b2 fLt (b2 fMul (bE (eIx (bVar 0) (cst (.int 0)))) (bE (eIx (bVar 1) (cst (.int 1))))) (b2 fMul (bE (eIx (bVar 1) (cst (.int 0)))) (bE (eIx (bVar 0) (cst (.int 1)))))))
def S_law_truth : SX := sRet (eB (bAnd (b1 (fIs "bool") (bVar 0)) (b2 fEq (bVar 0) (bVar 1))))
def seedL (c : Int) : Int := if 1000000000000000000 ≤ c then c else
  Int.fmod (Int.fmod (c * 48271 + 7919) 2147483647 * 16807) 2147483629 * 2147483399 + Int.fmod (Int.fmod (c * 69621 + 104729) 2147483587 * 40692) 2147483399
def F_seed : List D → Option RV
  | [.int c] => some ⟨.int (seedL c), false⟩
  | _ => none
theorem hF_seed : ∀ ds r, F_seed ds = some r → ∃ n, fnD 3 S_law_seed n ds = some r := by
  intro ds r h
  unfold F_seed at h
  split at h
  · rename_i c
    cases h
    refine ⟨0, ?_⟩
    by_cases hc : (1000000000000000000 : Int) ≤ c
    · simp [fnD_a, S_law_seed, fPow_i, powB, seedL, hc]
    · simp [fnD_a, S_law_seed, fPow_i, powB, seedL, hc, fMul_i, fMod_i, mulB_r]
  · cases h
/-! digits -/
def goL (c : Int) : Nat → Int → List Int → List Int
  | _, _, [] => []
  | k, rest, s :: ss =>
    let r := if rest < s then seedL (rest + 131 * (k : Int) + Int.fmod c 1009) else rest
    Int.fmod r s :: goL c (k + 1) (Int.fdiv r s) ss
def digL (c : Int) (ss : List Int) : List Int := goL c 0 (seedL c) ss
def okS (s : Int) : Bool := decide (s ≠ 0) && decide (s.natAbs < big)
def intsD : List D → Option (List Int)
  | [] => some []
  | .int i :: ds => (intsD ds).map (i :: ·)
  | _ => none
theorem intsD_eq : ∀ {ds : List D} {ns : List Int}, intsD ds = some ns → ds = ns.map .int
  | [], ns, h => by cases h; rfl
  | .int i :: ds, ns, h => by
    simp only [intsD] at h
    cases q : intsD ds with
    | none => rw [q] at h; cases h
    | some ms => rw [q] at h; cases h; rw [intsD_eq q]; rfl
  | .non :: _, _, h => by cases h
  | .bl _ :: _, _, h => by cases h
  | .str _ :: _, _, h => by cases h
  | .tup _ :: _, _, h => by cases h
  | .lst _ :: _, _, h => by cases h
  | .dic _ :: _, _, h => by cases h
theorem intsD_map : ∀ (ns : List Int), intsD (ns.map .int) = some ns
  | [] => rfl
  | n :: ns => by simp [intsD, intsD_map ns]
def F_digits : List D → Option RV
  | [.int c, .lst ds] => (intsD ds).bind fun ss => if ss.all okS && decide (ss.length ≤ 1000) then some ⟨.lst ((digL c ss).map .int), true⟩ else none
  | _ => none
theorem dig_loop (c : Int) (all : D) (n : Nat) : ∀ (ss : List Int) (k : Nat) (rest : Int) (acc : List D) (s4 s5 : Sl), ss.all okS = true → acc.length + ss.length ≤ 2000 →
    ∃ rest' s4' s5', loopF (gdSeq [4, 5]) (sSeq (sIf (b2 fLt (bVar 2) (bVar 5)) (sSet 2 (eCallN 1 F_seed (aCons (eB (b2 fAdd (b2 fAdd (bVar 2) (b2 fMul (cst (.int 131)) (bVar 4))) (b2 fMod (bVar 0) (cst (.int 1009))))) aNil))) sNext) (sSeq (sAppend 3 (eB (b2 fMod (bVar 2) (bVar 5)))) (sSet 2 (eB (b2 fDiv (bVar 2) (bVar 5)))))) n (enumD k (ss.map .int))
      [.pu (.int c), .pu all, .pu (.int rest), .mu (.lst acc), s4, s5] = some (.nx [.pu (.int c), .pu all, .pu (.int rest'), .mu (.lst (acc ++ (goL c k rest ss).map .int)), s4', s5'])
  | [], k, rest, acc, s4, s5, _, _ => ⟨rest, s4, s5, by simp [enumD, loopF, goL]⟩
  | s :: ss, k, rest, acc, s4, s5, ha, hl => by
    rw [List.all_cons, Bool.and_eq_true] at ha
    obtain ⟨h1, h2⟩ := ha
    unfold okS at h1
    rw [Bool.and_eq_true, decide_eq_true_eq, decide_eq_true_eq] at h1
    have hd : ∀ i, divB i s = true := fun i => by unfold divB; rw [decide_eq_true h1.1, decide_eq_true h1.2]; rfl
    have hlim : acc.length < lim := by unfold lim; simp at hl; omega
    obtain ⟨rest', s4', s5', ih⟩ := dig_loop c all n ss (k + 1) (Int.fdiv (if rest < s then seedL (rest + 131 * (k : Int) + Int.fmod c 1009) else rest) s) (acc ++ [.int (Int.fmod (if rest < s then seedL (rest + 131 * (k : Int) + Int.fmod c 1009) else rest) s)]) (.pu (.int k)) (.pu (.int s)) h2 (by simp at hl ⊢; omega)
    refine ⟨rest', s4', s5', ?_⟩
    simp only [List.map_cons, enumD, loopF, gdSeq, setAll, List.set_cons_succ, List.set_cons_zero, Option.bind_some]
    by_cases hr : rest < s
    · rw [if_pos hr] at ih
      simp [hr, fMul_i, mulB_l, fMod_i, h1.1, F_seed, hlim, fDiv_i, hd]
      rw [ih]
      simp [goL, hr]
    · rw [if_neg hr] at ih
      simp [hr, fMul_i, mulB_l, fMod_i, h1.1, F_seed, hlim, fDiv_i, hd]
      rw [ih]
      simp [goL, hr]
theorem hF_digits : ∀ ds r, F_digits ds = some r → ∃ n, fnD 6 (S_law_digits F_seed) n ds = some r := by
  intro ds r h
  unfold F_digits at h
  split at h
  · rename_i c ds
    cases q : intsD ds with
    | none => rw [q] at h; cases h
    | some ss =>
      rw [q] at h
      simp only [Option.bind_some] at h
      split at h
      · rename_i hc
        rw [Bool.and_eq_true, decide_eq_true_eq] at hc
        cases h
        have e := intsD_eq q
        subst e
        obtain ⟨rest', s4', s5', L⟩ := dig_loop c (.lst (ss.map .int)) 0 ss 0 (seedL c) [] .un .un hc.1 (by simp; omega)
        refine ⟨0, ?_⟩
        simp only [S_law_digits]
        simp [fnD_a, F_seed, lim]
        rw [L]
        simp [digL]
      · cases h
  · cases h
/-! cells, numbers -/
def cellL (ns : List Int) (i : Nat) : Int := ns.getD i 0
def F_cell : List D → Option RV
  | [.lst ds, .int i] => (intsD ds).bind fun ns => if 0 ≤ i then some ⟨.int (cellL ns i.toNat), false⟩ else none
  | _ => none
theorem hF_cell : ∀ ds r, F_cell ds = some r → ∃ n, fnD 2 S_law_cell n ds = some r := by
  intro ds r h
  unfold F_cell at h
  split at h
  · rename_i ds i
    cases q : intsD ds with
    | none => rw [q] at h; cases h
    | some ns =>
      rw [q] at h
      simp only [Option.bind_some] at h
      split at h
      · rename_i h0
        cases h
        have e := intsD_eq q
        subst e
        refine ⟨0, ?_⟩
        by_cases hi : i < ns.length
        · have hlt : i.toNat < ns.length := by omega
          have ha : atI (ns.map D.int) i = some (.int (ns[i.toNat])) := by
            have := atI_nat (xs := ns.map D.int) (j := i.toNat) (v := .int (ns[i.toNat])) (by simp [hlt])
            rw [Int.toNat_of_nonneg h0] at this
            exact this
          simp [fnD_a, S_law_cell, hi, ha, cellL, hlt, List.getD_eq_getElem?_getD]
        · have hge : ns.length ≤ i.toNat := by omega
          simp [fnD_a, S_law_cell, hi, cellL, List.getD_eq_getElem?_getD, hge]
      · cases h
  · cases h
theorem fmod_range {a b : Int} (h : 0 < b) : 0 ≤ a.fmod b ∧ a.fmod b < b := ⟨Int.fmod_nonneg_of_pos a h, Int.fmod_lt_of_pos a h⟩
theorem digL4 (c a b e f : Int) (ha : 0 < a) (hb : 0 < b) (he : 0 < e) (hf : 0 < f) : ∃ w x y z, digL c [a, b, e, f] = [w, x, y, z] ∧ 0 ≤ w ∧ w < a ∧ 0 ≤ x ∧ x < b ∧ 0 ≤ y ∧ y < e ∧ 0 ≤ z ∧ z < f := by
  refine ⟨_, _, _, _, rfl, ?_⟩
  have h1 := fun t => fmod_range (a := t) ha
  have h2 := fun t => fmod_range (a := t) hb
  have h3 := fun t => fmod_range (a := t) he
  have h4 := fun t => fmod_range (a := t) hf
  exact ⟨(h1 _).1, (h1 _).2, (h2 _).1, (h2 _).2, (h3 _).1, (h3 _).2, (h4 _).1, (h4 _).2⟩
def pickL : List Int → Int
  | [lo, hi, sz, sg] =>
    let v := if sz = 0 then Int.fmod lo 10 else if sz = 1 then Int.fmod lo 1000 else if sz = 2 then lo else if sz = 3 then hi else 1000000000000000000000000000000000000000000000000000000000000 - 1 - Int.fmod lo 4
    if sg = 1 then 0 - v else v
  | _ => 0
def numL (c : Int) : Int := pickL (digL c [1000000000, 100000000000000000000000000000000000000000000000000, 5, 2])
theorem numL_lt (c : Int) : (numL c).natAbs < 1000000000000000000000000000000000000000000000000000000000000 := by
  unfold numL
  obtain ⟨w, x, y, z, e, h⟩ := digL4 c 1000000000 100000000000000000000000000000000000000000000000000 5 2 (by decide) (by decide) (by decide) (by decide)
  rw [e]
  simp only [pickL]
  have m1 := fmod_range (a := w) (b := 10) (by decide)
  have m2 := fmod_range (a := w) (b := 1000) (by decide)
  have m3 := fmod_range (a := w) (b := 4) (by decide)
  generalize w.fmod 10 = p1 at *
  generalize w.fmod 1000 = p2 at *
  generalize w.fmod 4 = p3 at *
  split <;> (split <;> (try split) <;> (try split) <;> (try split) <;> omega)
def F_number : List D → Option RV
  | [.int c] => some ⟨.int (numL c), false⟩
  | _ => none
def F_gcd : List D → Option RV
  | [.int a, .int b] => if 0 ≤ a ∧ 0 ≤ b then some ⟨.int (Int.gcd a b : Nat), false⟩ else none
  | _ => none
def F_common_divisor : List D → Option RV
  | [.int a, .int b] => some ⟨.int (Int.gcd a b : Nat), false⟩
  | _ => none
/-! amounts -/
def amtL (a b : Int) : Int × Int := let g : Int := if b < 0 then -(Int.gcd a b : Int) else (Int.gcd a b : Int); (a.fdiv g, b.fdiv g)
def amD (p : Int × Int) : D := .tup [.int p.1, .int p.2]
def F_amount : List D → Option RV
  | [.int a, .int b] => if b ≠ 0 ∧ b.natAbs < big then some ⟨amD (amtL a b), false⟩ else none
  | _ => none
def F_whole : List D → Option RV
  | [.int _] => some ⟨.bl true, false⟩
  | _ => none
def F_is_amount : List D → Option RV
  | [.tup [.int a, .int b]] => if b < 1 then some ⟨.bl false, false⟩ else some ⟨.bl (decide (((Int.gcd a b : Nat) : Int) = 1)), false⟩
  | _ => none
def F_lowest : List D → Option RV
  | [.int a, .int b] => if b ≠ 0 ∧ b.natAbs < big then some ⟨amD (amtL a b), false⟩ else none
  | _ => none
def denL (c : Int) : Int := if numL c = 0 then 1 else numL c
def drawL (a b : Int) : Int × Int := amtL (numL a) (denL b)
def F_drawn_amount : List D → Option RV
  | [.int a, .int b] => some ⟨amD (drawL a b), false⟩
  | _ => none
/-! below, truth -/
def F_below : List D → Option RV
  | [.tup [.int a, .int b], .tup [.int c, .int d]] => if mulB a d && mulB c b then some ⟨.bl (decide (a * d < c * b)), false⟩ else none
  | _ => none
def F_truth : List D → Option RV
  | [.bl a, .bl b] => some ⟨.bl (decide (a = b)), false⟩
  | _ => none
end FA

set_option linter.all false
set_option Elab.async false
set_option maxRecDepth 100000
set_option maxHeartbeats 4000000
/-! what the helpers of the laws do with webs -/
namespace FW
open PySem L2
noncomputable section
def fuel : Nat := 4000000
def oth (e : Int) : Int := if e % 2 = 0 then e + 1 else e - 1
theorem oth_oth (e : Int) : oth (oth e) = e := by
  unfold oth
  split <;> split <;> omega
def S_other : SX := sSeq (sIf (b2 fEq (b2 fMod (bVar 0) (cst (.int 2))) (cst (.int 0))) (sRet (eB (b2 fAdd (bVar 0) (cst (.int 1))))) sNext) (sRet (eB (b2 fSub (bVar 0) (cst (.int 1)))))
def F_other : List D → Option RV := fnD 1 S_other fuel
theorem fmod_e {a b : Int} (h : 0 ≤ b) : a.fmod b = a % b := Int.fmod_eq_emod_of_nonneg a h
theorem F_other_i (e : Int) : F_other [.int e] = some ⟨.int (oth e), false⟩ := by
  unfold F_other oth
  rw [fnD_a]
  have e1 : e.fmod 2 = e % 2 := fmod_e (by decide)
  by_cases h : e % 2 = 0
  · simp [S_other, fMod_i, e1, h]
  · simp [S_other, fMod_i, e1, h]
def S_seat : SX := sFor (srcR (abCons (cst (.int 3)) aNil)) (gdName 2) (sDput 0 (bE (eIx (bVar 1) (bVar 2))) (eIx (bVar 1) (b2 fMod (b2 fAdd (bVar 2) (cst (.int 1))) (cst (.int 3)))))
def F_seat : List D → Option D := fnM 3 S_seat fuel
theorem rngD3 : rngI 3 = some [.int 0, .int 1, .int 2] := rngI_of (n := 3) (by decide)
theorem F_seat_w {w : Wb} {a b c : Int} (h : w.length + 3 ≤ lim) : F_seat [.dic (dw w), .tup [.int a, .int b, .int c]] = some (.dic (dw (put3 w a b c))) := by
  unfold F_seat
  rw [fnM_a]
  have i0 : atI [D.int a, .int b, .int c] 0 = some (.int a) := rfl
  have i1 : atI [D.int a, .int b, .int c] 1 = some (.int b) := rfl
  have i2 : atI [D.int a, .int b, .int c] 2 = some (.int c) := rfl
  have m1 : (1 : Int).fmod 3 = 1 := rfl
  have m2 : (2 : Int).fmod 3 = 2 := rfl
  have m3 : (3 : Int).fmod 3 = 0 := rfl
  have l1 := putI_len (w := w) (k := a) (v := b)
  have l2 := putI_len (w := putI w a b) (k := b) (v := c)
  have c0 : w.length < lim := by omega
  have c1 : (putI w a b).length < lim := by omega
  have c2 : (putI (putI w a b) b c).length < lim := by omega
  simp [S_seat, rngD3, loopF, i0, i1, i2, fMod_i, m1, m2, m3, putD_dw, dw_len, c0, c1, c2, put3]
def S_join : SX := sSeq (sDput 0 (bVar 1) (eVar 2)) (sSeq (sDput 0 (bVar 2) (eVar 3)) (sDput 0 (bVar 3) (eVar 1)))
def F_join : List D → Option D := fnM 4 S_join fuel
theorem F_join_w {w : Wb} {a b c : Int} (h : w.length + 3 ≤ lim) : F_join [.dic (dw w), .int a, .int b, .int c] = some (.dic (dw (put3 w a b c))) := by
  unfold F_join
  rw [fnM_a]
  have l1 := putI_len (w := w) (k := a) (v := b)
  have l2 := putI_len (w := putI w a b) (k := b) (v := c)
  have c0 : w.length < lim := by omega
  have c1 : (putI w a b).length < lim := by omega
  have c2 : (putI (putI w a b) b c).length < lim := by omega
  simp [S_join, putD_dw, dw_len, c0, c1, c2, put3]
/-! combs -/
def cLeft (c h : Nat) : Nat := h / c * c + (h % c + c - 1) % c
def cAbove (r c h : Nat) : Nat := (h / c + r - 1) % r * c + h % c
def cStep (r c : Nat) (w : Wb) (h : Nat) : Wb := put3 (put3 w (6 * h) (6 * h + 2) (6 * h + 4)) (6 * h + 1) (6 * cLeft c h + 3) (6 * cAbove r c h + 5)
def cWeb (r c : Nat) : Nat → Wb
  | 0 => []
  | n + 1 => cStep r c (cWeb r c n) n
theorem cWeb_len {r c n : Nat} : (cWeb r c n).length ≤ 6 * n := by
  induction n with
  | zero => simp [cWeb]
  | succ n ih =>
    unfold cWeb cStep
    have h1 := put3_len (w := put3 (cWeb r c n) (6 * n) (6 * n + 2) (6 * n + 4)) (a := 6 * (n : Int) + 1) (b := 6 * (cLeft c n : Int) + 3) (c := 6 * (cAbove r c n : Int) + 5)
    have h2 := put3_len (w := cWeb r c n) (a := 6 * (n : Int)) (b := 6 * (n : Int) + 2) (c := 6 * (n : Int) + 4)
    omega
def S_lcomb (F_law_seat : List D → Option D) : SX := sSeq (sSet 2 eDict) (sSeq (sFor (srcR (abCons (b2 fMul (bVar 0) (bVar 1)) aNil)) (gdName 3) (sSeq (sPar 6 7 (aCons (eB (b2 fDiv (bVar 3) (bVar 1))) (aCons (eB (b2 fMod (bVar 3) (bVar 1))) aNil))) (sSeq (sSet 4 (eB (b2 fAdd (b2 fMul (bVar 6) (bVar 1)) (b2 fMod (b2 fSub (b2 fAdd (bVar 7) (bVar 1)) (cst (.int 1))) (bVar 1))))) (sSeq (sSet 5 (eB (b2 fAdd (b2 fMul (b2 fMod (b2 fSub (b2 fAdd (bVar 6) (bVar 0)) (cst (.int 1))) (bVar 0)) (bVar 1)) (bVar 7)))) (sSeq (sCallM 2 2 F_law_seat (aCons (eTup (aCons (eB (b2 fMul (cst (.int 6)) (bVar 3))) (aCons (eB (b2 fAdd (b2 fMul (cst (.int 6)) (bVar 3)) (cst (.int 2)))) (aCons (eB (b2 fAdd (b2 fMul (cst (.int 6)) (bVar 3)) (cst (.int 4)))) aNil)))) aNil)) (sCallM 2 2 F_law_seat (aCons (eTup (aCons (eB (b2 fAdd (b2 fMul (cst (.int 6)) (bVar 3)) (cst (.int 1)))) (aCons (eB (b2 fAdd (b2 fMul (cst (.int 6)) (bVar 4)) (cst (.int 3)))) (aCons (eB (b2 fAdd (b2 fMul (cst (.int 6)) (bVar 5)) (cst (.int 5)))) aNil)))) aNil))))))) (sRetV 2))
def F_lcomb : List D → Option RV := fnD 8 (S_lcomb F_seat) fuel
theorem mulS {i j : Int} (h : j.natAbs < 1000000) : mulB i j = true := mulB_r (by omega)
theorem mul6 {i : Int} : mulB 6 i = true := mulB_l (by decide)
theorem divS {i j : Int} (h : 0 < j) (h2 : j < 1000000) : divB i j = true := divB_c (by omega) (lt_big (by omega))
def B_lcomb : SX := (sSeq (sPar 6 7 (aCons (eB (b2 fDiv (bVar 3) (bVar 1))) (aCons (eB (b2 fMod (bVar 3) (bVar 1))) aNil))) (sSeq (sSet 4 (eB (b2 fAdd (b2 fMul (bVar 6) (bVar 1)) (b2 fMod (b2 fSub (b2 fAdd (bVar 7) (bVar 1)) (cst (.int 1))) (bVar 1))))) (sSeq (sSet 5 (eB (b2 fAdd (b2 fMul (b2 fMod (b2 fSub (b2 fAdd (bVar 6) (bVar 0)) (cst (.int 1))) (bVar 0)) (bVar 1)) (bVar 7)))) (sSeq (sCallM 2 2 F_seat (aCons (eTup (aCons (eB (b2 fMul (cst (.int 6)) (bVar 3))) (aCons (eB (b2 fAdd (b2 fMul (cst (.int 6)) (bVar 3)) (cst (.int 2)))) (aCons (eB (b2 fAdd (b2 fMul (cst (.int 6)) (bVar 3)) (cst (.int 4)))) aNil)))) aNil)) (sCallM 2 2 F_seat (aCons (eTup (aCons (eB (b2 fAdd (b2 fMul (cst (.int 6)) (bVar 3)) (cst (.int 1)))) (aCons (eB (b2 fAdd (b2 fMul (cst (.int 6)) (bVar 4)) (cst (.int 3)))) (aCons (eB (b2 fAdd (b2 fMul (cst (.int 6)) (bVar 5)) (cst (.int 5)))) aNil)))) aNil))))))
theorem B_lcomb_w {r c i n : Nat} {s4 s5 s6 s7 : Sl} (hr : 0 < r) (hc : 0 < c) (hr' : r ≤ 1000) (hc' : c ≤ 1000) (hi : i < 1000) :
    B_lcomb n [.pu (.int r), .pu (.int c), .mu (.dic (dw (cWeb r c i))), .pu (.int i), s4, s5, s6, s7] = some (.nx [.pu (.int r), .pu (.int c), .mu (.dic (dw (cWeb r c (i + 1)))), .pu (.int i), .pu (.int (cLeft c i)), .pu (.int (cAbove r c i)), .pu (.int (i / c : Nat)), .pu (.int (i % c : Nat))]) := by
  have hlen := cWeb_len (r := r) (c := c) (n := i)
  have hlen2 := put3_len (w := cWeb r c i) (a := 6 * (i : Int)) (b := 6 * (i : Int) + 2) (c := 6 * (i : Int) + 4)
  have cc : (0 : Int) ≤ c := by omega
  have d1 : divB (i : Int) (c : Int) = true := divS (by omega) (by omega)
  have f1 : (i : Int).fdiv (c : Int) = ((i / c : Nat) : Int) := by
    rw [Int.fdiv_eq_ediv_of_nonneg _ cc]; simp
  have f2 : (i : Int).fmod (c : Int) = ((i % c : Nat) : Int) := by
    rw [fmod_e cc]; simp
  have m1 : ∀ x : Int, mulB x (c : Int) = true := fun x => mulS (by omega)
  have nc : (c : Int) ≠ 0 := by omega
  have nr : (r : Int) ≠ 0 := by omega
  have f3 : (((i % c : Nat) : Int) + (c : Int) - 1).fmod (c : Int) = (((i % c + c - 1) % c : Nat) : Int) := by
    rw [fmod_e cc]
    have : ((i % c : Nat) : Int) + (c : Int) - 1 = ((i % c + c - 1 : Nat) : Int) := by generalize i % c = q; omega
    rw [this]; simp
  have f4 : (((i / c : Nat) : Int) + (r : Int) - 1).fmod (r : Int) = (((i / c + r - 1) % r : Nat) : Int) := by
    rw [fmod_e (by omega)]
    have : ((i / c : Nat) : Int) + (r : Int) - 1 = ((i / c + r - 1 : Nat) : Int) := by generalize i / c = q; omega
    rw [this]; simp
  have g1 : ((i / c : Nat) : Int) * (c : Int) + (((i % c + c - 1) % c : Nat) : Int) = (cLeft c i : Int) := by unfold cLeft; push_cast; rfl
  have g2 : (((i / c + r - 1) % r : Nat) : Int) * (c : Int) + ((i % c : Nat) : Int) = (cAbove r c i : Int) := by unfold cAbove; push_cast; rfl
  have s1 : (cWeb r c i).length + 3 ≤ lim := by unfold lim; omega
  have s2 : (put3 (cWeb r c i) (6 * (i : Int)) (6 * (i : Int) + 2) (6 * (i : Int) + 4)).length + 3 ≤ lim := by unfold lim; omega
  have l3 : 3 ≤ lim := by unfold lim; omega
  generalize hq : (i / c : Nat) = q at *
  generalize hm : (i % c : Nat) = m at *
  unfold B_lcomb
  simp only [sSeq_a, sPar_a, aCons_a, aNil_a, eB_a, b2_a, bVar_a, List.set_cons_succ, List.set_cons_zero, List.getElem?_cons_succ, List.getElem?_cons_zero, Option.bind_some, fDiv_i d1, fMod_i nc, f1, f2, at_i, if_true, sSet_a, Option.map_some, slotOf_f,
    fMul_i (m1 _), fAdd_i, fSub_i, f3, g1, fMod_i nr, f4, g2, cst_a, sCallM_a, ownD_a, eTup_a, fMul_i mul6, List.length_cons, List.length_nil, setMu_a, Nat.zero_add, Nat.reduceAdd, l3, F_seat_w s1]
  simp only [fMul_i mul6, Option.bind_some, fAdd_i, at_i, if_true, List.length_cons, List.length_nil, Nat.zero_add, Nat.reduceAdd, l3, F_seat_w s2, Option.map_some]
  rfl
theorem F_lcomb_w {r c : Nat} (hr : 0 < r) (hc : 0 < c) (hrc : r * c ≤ 1000) : F_lcomb [.int r, .int c] = some ⟨.dic (dw (cWeb r c (r * c))), true⟩ := by
  have hr' : r ≤ 1000 := Nat.le_trans (Nat.le_mul_of_pos_right r hc) hrc
  have hc' : c ≤ 1000 := Nat.le_trans (Nat.le_mul_of_pos_left c hr) hrc
  have go : ∀ fl, fnD 8 (S_lcomb F_seat) fl [.int r, .int c] = some ⟨.dic (dw (cWeb r c (r * c))), true⟩ := by
   intro fl
   have m0 : mulB (r : Int) (c : Int) = true := mulS (by omega)
   have rc : ((r : Int) * (c : Int)) = ((r * c : Nat) : Int) := by push_cast; rfl
   obtain ⟨e, h1, h2⟩ := loopF_inv (gd := gdName 3) (n := fl) (b := B_lcomb) (ds := rngD (r * c)) (env := [.pu (.int r), .pu (.int c), .mu (.dic (dw [])), .un, .un, .un, .un, .un])
     (fun i e => ∃ s3 s4 s5 s6 s7, e = [.pu (.int r), .pu (.int c), .mu (.dic (dw (cWeb r c i))), s3, s4, s5, s6, s7]) ⟨_, _, _, _, _, rfl⟩ (fun i d e hi ⟨s3, s4, s5, s6, s7, he⟩ => by
       obtain ⟨hlt, rfl⟩ := rngD_get hi
       subst he
       exact ⟨_, _, rfl, .inl (B_lcomb_w hr hc hr' hc' (by omega)), ⟨_, _, _, _, _, rfl⟩⟩)
   obtain ⟨s3, s4, s5, s6, s7, rfl⟩ := h2
   have src : srcR (abCons (b2 fMul (bVar 0) (bVar 1)) aNil) [.pu (.int r), .pu (.int c), .mu (.dic (dw [])), .un, .un, .un, .un, .un] = some (rngD (r * c)) := srcR_of (by rw [← rc]; exact fMul_i m0) (by omega)
   rw [rngD_len] at h1
   exact fnD_rt (e := [.pu (.int r), .pu (.int c), .mu (.dic (dw (cWeb r c (r * c)))), s3, s4, s5, s6, s7]) ((sSeq_nx (e := [.pu (.int r), .pu (.int c), .mu (.dic (dw [])), .un, .un, .un, .un, .un]) rfl).trans ((sSeq_nx (sFor_of src h1)).trans (sRetV_m rfl)))
  exact go fuel
end
end FW

set_option linter.all false
set_option Elab.async false
set_option maxRecDepth 100000
set_option maxHeartbeats 4000000
namespace FW
open PySem L2
noncomputable section
def B_comb : SX := sSeq (sSet 5 (eB (b2 fAdd (b2 fMul (bVar 3) (bVar 1)) (bVar 4)))) (sSeq (sSet 6 (eB (b2 fAdd (b2 fMul (bVar 3) (bVar 1)) (b2 fMod (b2 fSub (bVar 4) (cst (.int 1))) (bVar 1))))) (sSeq (sSet 7 (eB (b2 fAdd (b2 fMul (b2 fMod (b2 fSub (bVar 3) (cst (.int 1))) (bVar 0)) (bVar 1)) (bVar 4)))) (sSeq (sCallM 2 4 F_join (aCons (eB (b2 fMul (cst (.int 6)) (bVar 5))) (aCons (eB (b2 fAdd (b2 fMul (cst (.int 6)) (bVar 5)) (cst (.int 2)))) (aCons (eB (b2 fAdd (b2 fMul (cst (.int 6)) (bVar 5)) (cst (.int 4)))) aNil)))) (sCallM 2 4 F_join (aCons (eB (b2 fAdd (b2 fMul (cst (.int 6)) (bVar 5)) (cst (.int 1)))) (aCons (eB (b2 fAdd (b2 fMul (cst (.int 6)) (bVar 6)) (cst (.int 3)))) (aCons (eB (b2 fAdd (b2 fMul (cst (.int 6)) (bVar 7)) (cst (.int 5)))) aNil)))))))
def S_combP : SX := sSeq (sSet 2 eDict) (sSeq (sFor (srcR (abCons (bVar 0) aNil)) (gdName 3) (sFor (srcR (abCons (bVar 1) aNil)) (gdName 4) B_comb)) (sRetV 2))
def F_combP : List D → Option RV := fnD 8 S_combP fuel
/-! is it a whole number, is it the web -/
def S_whole : SX := sRet (eB (bAnd (b1 (fIs "int") (bVar 0)) (bNot (b1 (fIs "bool") (bVar 0)))))
def F_wholeN : List D → Option RV := fnD 1 S_whole fuel
def B_isweb : SX := sIf (bOr (b2 fNotIn (bVar 2) (bVar 0)) (bOr (bNot (bE (eCallN 1 F_wholeN (aCons (eIx (bVar 0) (bVar 2)) aNil)))) (b2 fNe (bE (eIx (bVar 0) (bVar 2))) (bE (eIx (bVar 1) (bVar 2)))))) (sRet (eB (cst (.bl false)))) sNext
def S_isweb : SX := sSeq (sIf (bOr (bNot (b1 (fIs "dict") (bVar 0))) (b2 fNe (bn fLen (abCons (bVar 0) aNil)) (bn fLen (abCons (bVar 1) aNil)))) (sRet (eB (cst (.bl false)))) sNext) (sSeq (sForV 1 (gdName 2) B_isweb) (sRet (eB (bn fAll (abCons (bE (eLcV 0 (gdName 2) (cst (.bl true)) (eCallN 1 F_wholeN (aCons (eVar 2) aNil)) [2])) aNil)))))
def F_isweb : List D → Option RV := fnD 3 S_isweb fuel
end
end FW

set_option linter.all false
set_option Elab.async false
set_option maxRecDepth 100000
set_option maxHeartbeats 4000000
namespace FW
open PySem L2
noncomputable section
def itr (f : Int → Int) : Nat → Int → Int
  | 0, e => e
  | n + 1, e => f (itr f n e)
def path (f : Int → Int) (n : Nat) (e : Int) : List Int := (List.range n).map fun i => itr f i e
theorem path_len {f : Int → Int} {n : Nat} {e : Int} : (path f n e).length = n := by simp [path]
/-! rim -/
def B_rim : SX := sSeq (sSet 4 (eIx (bVar 0) (bE (eCallN 1 F_other (aCons (eIx (bVar 2) (b1 fNeg (cst (.int 1)))) aNil))))) (sSeq (sIf (b2 fEq (bVar 4) (bVar 1)) (sRetV 2) sNext) (sAppend 2 (eVar 4)))
def S_rim : SX := sSeq (sSet 2 (eLst (aCons (eVar 1) aNil))) (sSeq (sFor (srcR (abCons (bn fLen (abCons (bVar 0) aNil)) aNil)) (gdName 3) B_rim) (sRetV 2))
def F_rim : List D → Option RV := fnD 5 S_rim fuel
/-! flood -/
def lack (K S : List Int) : Nat := (K.filter fun y => decide (y ∉ S)).length
def V_flood : SX := sIf (b2 fNotIn (bVar 5) (bVar 2)) (sSeq (sDput 2 (bVar 5) (eB (cst (.bl true)))) (sAppend 3 (eVar 5))) sNext
def B_flood : SX := sSeq (sPop 4 3) (sFor (srcT (eTup (aCons (eIx (bVar 0) (bVar 4)) (aCons (eCallB 1 F_other (gV 4 gNone)) aNil)))) (gdName 5) V_flood)
def S_flood : SX := sSeq (sSet 2 (eDisp1 (bVar 1) (eB (cst (.bl true))))) (sSeq (sSet 3 (eLst (aCons (eVar 1) aNil))) (sSeq (sWhile (b2 fGt (bn fLen (abCons (bVar 3) aNil)) (cst (.int 0))) B_flood) (sRetV 2)))
def F_flood : List D → Option RV := fnD 6 S_flood fuel
end
end FW

set_option linter.all false
set_option Elab.async false
set_option maxRecDepth 100000
set_option maxHeartbeats 4000000
namespace FW
open PySem L2
noncomputable section
theorem mem_path {f : Int → Int} {e x : Int} {n : Nat} : x ∈ path f n e ↔ ∃ i, i < n ∧ x = itr f i e := by
  unfold path
  simp only [List.mem_map, List.mem_range]
  constructor
  · rintro ⟨i, h1, h2⟩; exact ⟨i, h1, h2.symm⟩
  · rintro ⟨i, h1, h2⟩; exact ⟨i, h1, h2.symm⟩
def W_count : SX := sSeq (sDput 1 (bVar 4) (eB (cst (.bl true)))) (sSet 4 (eIx (bVar 0) (bE (eCallN 1 F_other (aCons (eVar 4) aNil)))))
def B_count : SX := sIf (b2 fNotIn (bVar 3) (bVar 1)) (sSeq (sSet 2 (eB (b2 (fI yes2 fun a b => .int (a + b)) (bVar 2) (cst (.int 1))))) (sSeq (sSet 4 (eVar 3)) (sWhile (b2 fNotIn (bVar 4) (bVar 1)) W_count))) sNext
def S_count : SX := sSeq (sSet 1 eDict) (sSeq (sSet 2 (eB (cst (.int 0)))) (sSeq (sForV 0 (gdName 3) B_count) (sRetV 2)))
def F_count : List D → Option RV := fnD 5 S_count fuel
/-- one rim that is walked round -/
structure Round (f : Int → Int) (g : Int → Bool) (K : List Int) (e : Int) (n : Nat) : Prop where
  pos : 0 < n
  back : itr f n e = e
  nd : (path f n e).Nodup
  sub : ∀ i, itr f i e ∈ K
  one : ((path f n e).filter g).length = 1
end
end FW

set_option linter.all false
set_option Elab.async false
set_option maxRecDepth 100000
set_option maxHeartbeats 4000000
namespace FW
open PySem L2
noncomputable section
theorem at_zero {ds : List D} {d : D} : atI (d :: ds) 0 = some d := by
  unfold atI ixN
  simp
def S_fault : SX := sSeq (sSet 1 (eFr fSorted (abCons (bE (eFr fList (abCons (bVar 0) aNil))) aNil))) (sSeq (sIf (b2 fEq (bn fLen (abCons (bVar 1) aNil)) (cst (.int 0))) (sRet (eTup (aCons (eB (cst (.str "none"))) (aCons (eB (cst (.int 0))) aNil)))) sNext) (sSeq (sFrz 1 (sSet 2 (eLcV 1 (gdName 8) (b2 fNotIn (bE (eCallN 1 F_other (aCons (eVar 8) aNil))) (bVar 0)) (eVar 8) [8]))) (sSeq (sIf (b2 fGt (bn fLen (abCons (bVar 2) aNil)) (cst (.int 0))) (sRet (eTup (aCons (eB (cst (.str "lone"))) (aCons (eIx (bVar 2) (cst (.int 0))) aNil)))) sNext) (sSeq (sFrz 1 (sSet 3 (eLcV 1 (gdName 8) (b2 fNotIn (bE (eIx (bVar 0) (bVar 8))) (bVar 0)) (eVar 8) [8]))) (sSeq (sIf (b2 fGt (bn fLen (abCons (bVar 3) aNil)) (cst (.int 0))) (sRet (eTup (aCons (eB (cst (.str "astray"))) (aCons (eIx (bVar 3) (cst (.int 0))) aNil)))) sNext) (sSeq (sFrz 1 (sSet 4 (eLcV 1 (gdName 8) (bOr (b2 fEq (bE (eIx (bVar 0) (bVar 8))) (bVar 8)) (b2 fNe (bE (eIx (bVar 0) (bE (eIx (bVar 0) (bE (eIx (bVar 0) (bVar 8))))))) (bVar 8))) (eVar 8) [8]))) (sSeq (sIf (b2 fGt (bn fLen (abCons (bVar 4) aNil)) (cst (.int 0))) (sRet (eTup (aCons (eB (cst (.str "corner"))) (aCons (eIx (bVar 4) (cst (.int 0))) aNil)))) sNext) (sSeq (sSet 5 (eCallN 2 F_flood (aCons (eVar 0) (aCons (eIx (bVar 1) (cst (.int 0))) aNil)))) (sSeq (sFrz 1 (sSet 6 (eLcV 1 (gdName 8) (b2 fNotIn (bVar 8) (bVar 5)) (eVar 8) [8]))) (sSeq (sIf (b2 fGt (bn fLen (abCons (bVar 6) aNil)) (cst (.int 0))) (sRet (eTup (aCons (eB (cst (.str "apart"))) (aCons (eIx (bVar 6) (cst (.int 0))) aNil)))) sNext) (sSeq (sSet 7 (eCallN 1 F_count (aCons (eVar 0) aNil))) (sSeq (sIf (b2 fNe (b2 fMul (cst (.int 6)) (bVar 7)) (bn fLen (abCons (bVar 1) aNil))) (sFrz 7 (sRet (eTup (aCons (eB (cst (.str "glasses"))) (aCons (eVar 7) aNil))))) sNext) (sRet (eB (cst .non)))))))))))))))
def F_fault : List D → Option RV := fnD 9 S_fault fuel
/-- what a web is -/
structure IsWeb (w : Wb) (f : Int → Int) (g : Int → Bool) : Prop where
  ne : w ≠ []
  len : w.length + 3 ≤ lim
  nd : (keysI w).Nodup
  oth : ∀ x ∈ keysI w, oth x ∈ keysI w
  val : ∀ x ∈ keysI w, ∃ y ∈ keysI w, ∃ z ∈ keysI w, y ≠ x ∧ valI w x = some y ∧ valI w y = some z ∧ valI w z = some x
  conn : ∀ S : List Int, (∃ b ∈ keysI w, b ∈ S) → (∀ x ∈ S, FW.oth x ∈ S ∧ ∀ y, valI w x = some y → y ∈ S) → ∀ x ∈ keysI w, x ∈ S
  nxt : ∀ x ∈ keysI w, valI w (FW.oth x) = some (f x)
  rd : ∀ e ∈ keysI w, ∃ n, n < fuel ∧ Round f g (keysI w) e n
  six : 6 * ((keysI w).filter g).length = (keysI w).length
end
end FW

set_option linter.all false
set_option Elab.async false
set_option maxRecDepth 100000
set_option maxHeartbeats 4000000
namespace FW
open PySem L2
noncomputable section
/-! combs are webs -/
def cRight (c h : Nat) : Nat := h / c * c + (h % c + 1) % c
def cBelow (r c h : Nat) : Nat := (h / c + 1) % r * c + h % c
theorem dm {c q m : Nat} (hm : m < c) : (q * c + m) / c = q ∧ (q * c + m) % c = m := by
  have hc : 0 < c := by omega
  exact ⟨by rw [Nat.mul_comm, Nat.mul_add_div hc, Nat.div_eq_of_lt hm]; simp, by rw [Nat.mul_comm, Nat.mul_add_mod, Nat.mod_eq_of_lt hm]⟩
theorem pm1 {c m : Nat} (hm : m < c) : ((m + c - 1) % c + 1) % c = m := by
  by_cases h : m = 0
  · subst h
    rw [Nat.zero_add, Nat.mod_eq_of_lt (by omega : c - 1 < c), show c - 1 + 1 = c by omega, Nat.mod_self]
  · rw [show m + c - 1 = (m - 1) + c by omega, Nat.add_mod_right, Nat.mod_eq_of_lt (by omega : m - 1 < c), show m - 1 + 1 = m by omega, Nat.mod_eq_of_lt hm]
theorem mp1 {c m : Nat} (hm : m < c) : ((m + 1) % c + c - 1) % c = m := by
  by_cases h : m + 1 = c
  · rw [h, Nat.mod_self, Nat.zero_add, Nat.mod_eq_of_lt (by omega : c - 1 < c)]; omega
  · rw [Nat.mod_eq_of_lt (by omega : m + 1 < c), show m + 1 + c - 1 = m + c by omega, Nat.add_mod_right, Nat.mod_eq_of_lt hm]
section
variable {r c : Nat} (hr : 0 < r) (hc : 0 < c)
theorem cL {q m : Nat} (hm : m < c) : cLeft c (q * c + m) = q * c + (m + c - 1) % c := by unfold cLeft; rw [(dm hm).1, (dm hm).2]
theorem cR {q m : Nat} (hm : m < c) : cRight c (q * c + m) = q * c + (m + 1) % c := by unfold cRight; rw [(dm hm).1, (dm hm).2]
theorem cA {q m : Nat} (hm : m < c) : cAbove r c (q * c + m) = (q + r - 1) % r * c + m := by unfold cAbove; rw [(dm hm).1, (dm hm).2]
theorem cB {q m : Nat} (hm : m < c) : cBelow r c (q * c + m) = (q + 1) % r * c + m := by unfold cBelow; rw [(dm hm).1, (dm hm).2]
theorem cell_lt {q m : Nat} (hq : q < r) (hm : m < c) : q * c + m < r * c := by
  have := Nat.mul_le_mul_right c (Nat.succ_le_of_lt hq)
  rw [Nat.succ_mul] at this
  omega
include hc in
theorem cell {h : Nat} (hh : h < r * c) : ∃ q m, q < r ∧ m < c ∧ h = q * c + m :=
  ⟨h / c, h % c, (Nat.div_lt_iff_lt_mul hc).mpr hh, Nat.mod_lt _ hc, by rw [Nat.mul_comm]; exact (Nat.div_add_mod h c).symm⟩
include hr hc
theorem L_lt {h : Nat} (hh : h < r * c) : cLeft c h < r * c := by
  obtain ⟨q, m, hq, hm, rfl⟩ := cell hc hh
  rw [cL hm]; exact cell_lt hq (Nat.mod_lt _ hc)
theorem R_lt {h : Nat} (hh : h < r * c) : cRight c h < r * c := by
  obtain ⟨q, m, hq, hm, rfl⟩ := cell hc hh
  rw [cR hm]; exact cell_lt hq (Nat.mod_lt _ hc)
theorem A_lt {h : Nat} (hh : h < r * c) : cAbove r c h < r * c := by
  obtain ⟨q, m, hq, hm, rfl⟩ := cell hc hh
  rw [cA hm]; exact cell_lt (Nat.mod_lt _ hr) hm
theorem B_lt {h : Nat} (hh : h < r * c) : cBelow r c h < r * c := by
  obtain ⟨q, m, hq, hm, rfl⟩ := cell hc hh
  rw [cB hm]; exact cell_lt (Nat.mod_lt _ hr) hm
theorem RL {h : Nat} (hh : h < r * c) : cRight c (cLeft c h) = h := by
  obtain ⟨q, m, hq, hm, rfl⟩ := cell hc hh
  rw [cL hm, cR (Nat.mod_lt _ hc), pm1 hm]
theorem LR {h : Nat} (hh : h < r * c) : cLeft c (cRight c h) = h := by
  obtain ⟨q, m, hq, hm, rfl⟩ := cell hc hh
  rw [cR hm, cL (Nat.mod_lt _ hc), mp1 hm]
theorem BA {h : Nat} (hh : h < r * c) : cBelow r c (cAbove r c h) = h := by
  obtain ⟨q, m, hq, hm, rfl⟩ := cell hc hh
  rw [cA hm, cB hm, pm1 hq]
theorem AB {h : Nat} (hh : h < r * c) : cAbove r c (cBelow r c h) = h := by
  obtain ⟨q, m, hq, hm, rfl⟩ := cell hc hh
  rw [cB hm, cA hm, mp1 hq]
end
theorem put3_new {w : Wb} {a b c : Int} (ha : a ∉ keysI w) (hb : b ∉ keysI w) (hc : c ∉ keysI w) (h1 : b ≠ a) (h2 : c ≠ a) (h3 : c ≠ b) : put3 w a b c = w ++ [(a, b), (b, c), (c, a)] := by
  have e1 : putI w a b = w ++ [(a, b)] := putI_new ha
  have e2 : putI (w ++ [(a, b)]) b c = w ++ [(a, b)] ++ [(b, c)] := putI_new (by
    simp only [keysI, List.map_append, List.map_cons, List.map_nil, List.mem_append, List.mem_singleton, not_or]
    exact ⟨hb, h1⟩)
  have e3 : putI (w ++ [(a, b)] ++ [(b, c)]) c a = w ++ [(a, b)] ++ [(b, c)] ++ [(c, a)] := putI_new (by
    simp only [keysI, List.map_append, List.map_cons, List.map_nil, List.mem_append, List.mem_singleton, not_or]
    exact ⟨⟨hc, h2⟩, h3⟩)
  unfold put3
  rw [e1, e2, e3]
  simp
def pairsC (r c h : Nat) : Wb := [(6 * (h : Int), 6 * (h : Int) + 2), (6 * (h : Int) + 2, 6 * (h : Int) + 4), (6 * (h : Int) + 4, 6 * (h : Int)), (6 * (h : Int) + 1, 6 * (cLeft c h : Int) + 3), (6 * (cLeft c h : Int) + 3, 6 * (cAbove r c h : Int) + 5), (6 * (cAbove r c h : Int) + 5, 6 * (h : Int) + 1)]
section
variable {r c : Nat}
theorem mem_cWeb {n : Nat} {x : Int} : x ∈ keysI (cWeb r c n) ↔ ∃ h, h < n ∧ (x = 6 * (h : Int) ∨ x = 6 * (h : Int) + 2 ∨ x = 6 * (h : Int) + 4 ∨ x = 6 * (h : Int) + 1 ∨ x = 6 * (cLeft c h : Int) + 3 ∨ x = 6 * (cAbove r c h : Int) + 5) := by
  induction n with
  | zero => simp [cWeb]
  | succ n ih =>
    unfold cWeb cStep
    rw [mem_put3, mem_put3, ih]
    constructor
    · rintro (h | h | h | h | h | h | ⟨h, h1, h2⟩)
      · exact ⟨n, by omega, by simp [h]⟩
      · exact ⟨n, by omega, by simp [h]⟩
      · exact ⟨n, by omega, by simp [h]⟩
      · exact ⟨n, by omega, by simp [h]⟩
      · exact ⟨n, by omega, by simp [h]⟩
      · exact ⟨n, by omega, by simp [h]⟩
      · exact ⟨h, by omega, h2⟩
    · rintro ⟨h, h1, h2⟩
      by_cases e : h = n
      · subst e
        rcases h2 with h2 | h2 | h2 | h2 | h2 | h2 <;> simp [h2]
      · exact .inr (.inr (.inr (.inr (.inr (.inr ⟨h, by omega, h2⟩)))))
theorem cWeb_nodup {n : Nat} : (keysI (cWeb r c n)).Nodup := by
  induction n with
  | zero => simp [cWeb]
  | succ n ih => exact put3_nodup (put3_nodup ih)
variable (hr : 0 < r) (hc : 0 < c)
include hr hc
theorem cWeb_succ {n : Nat} (hn : n < r * c) : cWeb r c (n + 1) = cWeb r c n ++ pairsC r c n := by
  have injL : ∀ h, h < n → cLeft c h ≠ cLeft c n := fun h hh e => by
    have := congrArg (cRight c) e
    rw [RL hr hc (by omega), RL hr hc hn] at this
    omega
  have injA : ∀ h, h < n → cAbove r c h ≠ cAbove r c n := fun h hh e => by
    have := congrArg (cBelow r c) e
    rw [BA hr hc (by omega), BA hr hc hn] at this
    omega
  show cStep r c (cWeb r c n) n = _
  unfold cStep
  have f1 : ∀ x : Int, (x = 6 * (n : Int) ∨ x = 6 * (n : Int) + 2 ∨ x = 6 * (n : Int) + 4 ∨ x = 6 * (n : Int) + 1 ∨ x = 6 * (cLeft c n : Int) + 3 ∨ x = 6 * (cAbove r c n : Int) + 5) → x ∉ keysI (cWeb r c n) := fun x hx hm => by
    obtain ⟨h, h1, h2⟩ := mem_cWeb.mp hm
    have i1 := injL h h1
    have i2 := injA h h1
    omega
  rw [put3_new (f1 _ (by simp)) (f1 _ (by simp)) (f1 _ (by simp)) (by omega) (by omega) (by omega)]
  have f2 : ∀ x : Int, (x = 6 * (n : Int) + 1 ∨ x = 6 * (cLeft c n : Int) + 3 ∨ x = 6 * (cAbove r c n : Int) + 5) → x ∉ keysI (cWeb r c n ++ [(6 * (n : Int), 6 * (n : Int) + 2), (6 * (n : Int) + 2, 6 * (n : Int) + 4), (6 * (n : Int) + 4, 6 * (n : Int))]) := fun x hx hm => by
    simp only [keysI, List.map_append, List.map_cons, List.map_nil, List.mem_append, List.mem_cons, List.not_mem_nil, or_false] at hm
    rcases hm with hm | hm
    · exact f1 x (by rcases hx with h | h | h <;> simp [h]) hm
    · omega
  rw [put3_new (f2 _ (by simp)) (f2 _ (by simp)) (f2 _ (by simp)) (by omega) (by omega) (by omega)]
  simp [pairsC]
theorem pair_mem {n : Nat} (hn : n ≤ r * c) {h : Nat} (hh : h < n) {p : Int × Int} (hp : p ∈ pairsC r c h) : p ∈ cWeb r c n := by
  induction n with
  | zero => omega
  | succ n ih =>
    rw [cWeb_succ hr hc (by omega)]
    by_cases e : h = n
    · subst e; exact List.mem_append_right _ hp
    · exact List.mem_append_left _ (ih (by omega) (by omega))
theorem cv {h : Nat} (hh : h < r * c) {k v : Int} (hp : (k, v) ∈ pairsC r c h) : valI (cWeb r c (r * c)) k = some v := valI_of cWeb_nodup (pair_mem hr hc (Nat.le_refl _) hh hp)
theorem cWeb_length {n : Nat} (hn : n ≤ r * c) : (cWeb r c n).length = 6 * n ∧ ((keysI (cWeb r c n)).filter fun x => decide (x % 6 = 0)).length = n := by
  induction n with
  | zero => simp [cWeb]
  | succ n ih =>
    obtain ⟨i1, i2⟩ := ih (by omega)
    rw [cWeb_succ hr hc (by omega)]
    refine ⟨by simp [i1, pairsC]; omega, ?_⟩
    rw [keysI, List.map_append, List.filter_append, List.length_append, i2]
    have a0 : (6 * (n : Int)) % 6 = 0 := by omega
    have a1 : ¬ (6 * (n : Int) + 1) % 6 = 0 := by omega
    have a2 : ¬ (6 * (n : Int) + 2) % 6 = 0 := by omega
    have a3 : ¬ (6 * (cLeft c n : Int) + 3) % 6 = 0 := by omega
    have a4 : ¬ (6 * (n : Int) + 4) % 6 = 0 := by omega
    have a5 : ¬ (6 * (cAbove r c n : Int) + 5) % 6 = 0 := by omega
    simp only [pairsC, List.map_cons, List.map_nil, List.filter_cons, List.filter_nil, a0, a1, a2, a3, a4, a5, decide_true, decide_false, if_true]
    rfl
theorem key_of {n : Nat} {j : Nat} (hj : j < r * c) (t : Int) (ht : 0 ≤ t) (ht2 : t < 6) : 6 * (j : Int) + t ∈ keysI (cWeb r c (r * c)) := by
  rw [mem_cWeb]
  have : t = 0 ∨ t = 1 ∨ t = 2 ∨ t = 3 ∨ t = 4 ∨ t = 5 := by omega
  rcases this with rfl | rfl | rfl | rfl | rfl | rfl
  · exact ⟨j, hj, by simp⟩
  · exact ⟨j, hj, by simp⟩
  · exact ⟨j, hj, by simp⟩
  · exact ⟨cRight c j, R_lt hr hc hj, by rw [LR hr hc hj]; simp⟩
  · exact ⟨j, hj, by simp⟩
  · exact ⟨cBelow r c j, B_lt hr hc hj, by rw [AB hr hc hj]; simp⟩
theorem of_key {x : Int} (hx : x ∈ keysI (cWeb r c (r * c))) : ∃ j t : Nat, j < r * c ∧ t < 6 ∧ x = 6 * (j : Int) + (t : Int) := by
  obtain ⟨h, h1, h2⟩ := mem_cWeb.mp hx
  rcases h2 with h2 | h2 | h2 | h2 | h2 | h2
  · exact ⟨h, 0, h1, by omega, by simpa using h2⟩
  · exact ⟨h, 2, h1, by omega, by simpa using h2⟩
  · exact ⟨h, 4, h1, by omega, by simpa using h2⟩
  · exact ⟨h, 1, h1, by omega, by simpa using h2⟩
  · exact ⟨cLeft c h, 3, L_lt hr hc h1, by omega, by simpa using h2⟩
  · exact ⟨cAbove r c h, 5, A_lt hr hc h1, by omega, by simpa using h2⟩
end
/-- where the rim goes on -/
def cN (r c : Nat) (x : Int) : Int := (valI (cWeb r c (r * c)) (oth x)).getD 0
theorem oth_e (j : Nat) (t : Int) (ht : t % 2 = 0) : oth (6 * (j : Int) + t) = 6 * (j : Int) + (t + 1) := by unfold oth; rw [if_pos (by omega)]; omega
theorem oth_o (j : Nat) (t : Int) (ht : t % 2 = 1) : oth (6 * (j : Int) + t) = 6 * (j : Int) + (t - 1) := by unfold oth; rw [if_neg (by omega)]; omega
section
variable {r c : Nat} (hr : 0 < r) (hc : 0 < c) {j : Nat} (hj : j < r * c)
include hr hc hj
theorem cN0 : cN r c (6 * (j : Int) + 0) = 6 * (cLeft c j : Int) + 3 := by
  unfold cN; rw [oth_e j 0 rfl, cv hr hc hj (k := 6 * (j : Int) + (0 + 1)) (v := 6 * (cLeft c j : Int) + 3) (by simp [pairsC])]; rfl
theorem cN1 : cN r c (6 * (j : Int) + 1) = 6 * (j : Int) + 2 := by
  unfold cN; rw [oth_o j 1 rfl, cv hr hc hj (k := 6 * (j : Int) + (1 - 1)) (v := 6 * (j : Int) + 2) (by simp [pairsC])]; rfl
theorem cN2 : cN r c (6 * (j : Int) + 2) = 6 * (cAbove r c (cRight c j) : Int) + 5 := by
  unfold cN; rw [oth_e j 2 rfl, cv hr hc (R_lt hr hc hj) (k := 6 * (j : Int) + (2 + 1)) (v := 6 * (cAbove r c (cRight c j) : Int) + 5) (by simp [pairsC, LR hr hc hj])]; rfl
theorem cN3 : cN r c (6 * (j : Int) + 3) = 6 * (j : Int) + 4 := by
  unfold cN; rw [oth_o j 3 rfl, cv hr hc hj (k := 6 * (j : Int) + (3 - 1)) (v := 6 * (j : Int) + 4) (by simp [pairsC])]; rfl
theorem cN4 : cN r c (6 * (j : Int) + 4) = 6 * (cBelow r c j : Int) + 1 := by
  unfold cN; rw [oth_e j 4 rfl, cv hr hc (B_lt hr hc hj) (k := 6 * (j : Int) + (4 + 1)) (v := 6 * (cBelow r c j : Int) + 1) (by simp [pairsC, AB hr hc hj])]; rfl
theorem cN5 : cN r c (6 * (j : Int) + 5) = 6 * (j : Int) + 0 := by
  unfold cN; rw [oth_o j 5 rfl, cv hr hc hj (k := 6 * (j : Int) + (5 - 1)) (v := 6 * (j : Int) + 0) (by simp [pairsC])]; rfl
end
def gC (x : Int) : Bool := decide (x % 6 = 0)
section
variable {r c : Nat} (hr : 0 < r) (hc : 0 < c)
include hr hc
theorem cN_mem {x : Int} (hx : x ∈ keysI (cWeb r c (r * c))) : cN r c x ∈ keysI (cWeb r c (r * c)) := by
  obtain ⟨j, t, hj, ht, rfl⟩ := of_key hr hc hx
  have : t = 0 ∨ t = 1 ∨ t = 2 ∨ t = 3 ∨ t = 4 ∨ t = 5 := by omega
  rcases this with rfl | rfl | rfl | rfl | rfl | rfl
  · exact (cN0 hr hc hj).symm ▸ key_of (n := 0) hr hc (L_lt hr hc hj) 3 (by decide) (by decide)
  · exact (cN1 hr hc hj).symm ▸ key_of (n := 0) hr hc hj 2 (by decide) (by decide)
  · exact (cN2 hr hc hj).symm ▸ key_of (n := 0) hr hc (A_lt hr hc (R_lt hr hc hj)) 5 (by decide) (by decide)
  · exact (cN3 hr hc hj).symm ▸ key_of (n := 0) hr hc hj 4 (by decide) (by decide)
  · exact (cN4 hr hc hj).symm ▸ key_of (n := 0) hr hc (B_lt hr hc hj) 1 (by decide) (by decide)
  · exact (cN5 hr hc hj).symm ▸ key_of (n := 0) hr hc hj 0 (by decide) (by decide)
theorem itr_mem {x : Int} (hx : x ∈ keysI (cWeb r c (r * c))) : ∀ i, itr (cN r c) i x ∈ keysI (cWeb r c (r * c))
  | 0 => hx
  | i + 1 => cN_mem hr hc (itr_mem hx i)
end
end
end FW

set_option linter.all false
set_option Elab.async false
set_option maxRecDepth 100000
set_option maxHeartbeats 4000000
namespace FW
open PySem L2
noncomputable section
section
variable {r c : Nat} (hr : 0 < r) (hc : 0 < c)
include hr hc
end
end
end FW

set_option linter.all false
set_option Elab.async false
set_option maxRecDepth 100000
set_option maxHeartbeats 1000000
namespace FW
open PySem L2
/-! ## the least key of a dict -/
section
open PyProof.Rows
variable {prog : Program} {w : World} {A : Around} {E : Value → Shared → Prop} {s : Shared} {ns : List Int} {Q : Value → Shared → Prop}
end
section
variable {X : Cx}
def rMinD (K : PySem.W.Frag) : List V → Hp → VK → Prop := fun vs H Q => ∃ (p : Addr) (ws : List (Key × V)) (ns : List Int), vs = [V.ref p] ∧ Rd H p (.dK ws) ∧ ws.map (·.1) = ns.map Sum.inl ∧ ns ≠ [] ∧ ∀ m, m ∈ ns → (∀ y, y ∈ ns → m ≤ y) → Q (.int m) H
def fMinA : List D → Option D
  | [.dic kvs] => (intsD (keysD kvs)).bind fun ns => if ns = [] then none else some (.int (minI ns))
  | ds => fMinS ds
variable {e : Expr} {p pos : Pos} {xs : AX}
/-! ## the truth of lists and dicts -/
def fTru : D → Option D
  | .lst ds => some (.bl (!ds.isEmpty))
  | .dic kvs => some (.bl (!kvs.isEmpty))
  | .bl b => some (.bl b)
  | _ => none
@[simp] theorem fTru_l {ds : List D} : fTru (.lst ds) = some (.bl (!ds.isEmpty)) := rfl
@[simp] theorem fTru_d {kvs : List (Key × D)} : fTru (.dic kvs) = some (.bl (!kvs.isEmpty)) := rfl
@[simp] theorem fTru_b {b : Bool} : fTru (.bl b) = some (.bl b) := rfl
end
end FW

set_option linter.all false
set_option Elab.async false
set_option maxRecDepth 100000
set_option maxHeartbeats 1000000
namespace FW
open PySem PySem.Spec PyProof.Rows L2
/-! ## a heap without some objects -/
def cutH (h : Heap) (S : List Addr) : Heap := { h with objs := h.objs.mapIdx fun i o => if i ∈ S then { o with data := .freed } else o }
theorem cutH_get (h : Heap) (S : List Addr) (b : Addr) : (cutH h S).get? b = if b ∈ S then none else h.get? b := by
  unfold cutH Heap.get?
  simp only [Array.getElem?_mapIdx]
  cases q : h.objs[b]? with
  | none => simp
  | some o =>
    by_cases hb : b ∈ S
    · simp [hb]
    · simp [hb]
theorem cutH_some {h : Heap} {S : List Addr} {b : Addr} {o : Obj} : (cutH h S).get? b = some o ↔ b ∉ S ∧ h.get? b = some o := by
  rw [cutH_get]
  by_cases hb : b ∈ S <;> simp [hb]
theorem cutH_none {h : Heap} {S : List Addr} {b : Addr} (hb : b ∈ S) : (cutH h S).get? b = none := by rw [cutH_get]; simp [hb]
theorem funFrames_cut {h base : Heap} : ∀ {l : List Env} {S : List Addr}, (∀ b ∈ frs l, b ∈ S) → h.FunFrames base l → h.FunFrames (cutH h S) l
  | [], _, _, _ => trivial
  | env :: r, S, hs, ⟨hk, ⟨L, o, hf, hn, ho, hd⟩, hr⟩ =>
    ⟨hk, ⟨L, o, hf, cutH_none (hs L (by unfold frs; rw [List.filterMap_cons, hf]; exact List.mem_cons_self)), ho, hd⟩,
      funFrames_cut (fun b hb => hs b (by
        unfold frs at hb ⊢
        rw [List.filterMap_cons]
        cases q : env.frame with
        | none => exact hb
        | some z => exact List.mem_cons_of_mem _ hb)) hr⟩
theorem objOk_there {P : Program} {w : World} {H : Hp} {h : Heap} {a : Addr} {o : HO} (x : ObjOk P w H h a o) : ∃ u, h.get? a = some u := by
  cases o with
  | lst xs => obtain ⟨_, _, _, _, e⟩ := x; exact ⟨_, e⟩
  | tup xs => obtain ⟨_, _, _, _, e, _⟩ := x; exact ⟨_, e⟩
  | dK kvs => obtain ⟨_, _, _, _, o, _, _, e, _⟩ := x; exact ⟨_, e⟩
  | dT kvs => obtain ⟨_, _, _, _, o, _, _, e, _⟩ := x; exact ⟨_, e⟩
  | set S n => obtain ⟨o, _, _, _, e, _⟩ := x; exact ⟨_, e⟩
  | ins C dx fs => obtain ⟨_, _, _, e, _⟩ := x; exact ⟨_, e⟩
  | own y => obtain ⟨_, e⟩ := x; exact ⟨_, e⟩
  | xd fs => obtain ⟨_, ⟨_, _, _, e, _⟩, _⟩ := x; exact ⟨_, e⟩
  | rng lo hi => obtain ⟨_, _, _, e⟩ := x; exact ⟨_, e⟩
  | frz ob u => obtain ⟨e, _⟩ := x; exact ⟨_, e⟩
  | tbl ps => exact ⟨_, show h.get? a = some _ from x⟩
  | met f y => exact ⟨_, show h.get? a = some _ from x⟩
  | ext φ => obtain ⟨_, ⟨_, e⟩, _⟩ := x; exact ⟨_, e⟩
/-! ## a flying exception -/
/-- e flies, of the class C, and e and its trace are new: unknown to H and to the heap h0 -/
def Flies (H : Hp) (h0 h : Heap) (e : Addr) (C : Value) : Prop :=
  ∃ oe vs a0 T oT ts, h.get? e = some oe ∧ (oe.cls = C ∧ vs[0]? = some a0) ∧ oe.data = .fields vs ∧ vs[1]? = some (Value.ref T) ∧ T ≠ e ∧ h.get? T = some oT ∧ oT.data = .fields ts ∧ ts[3]? = some Value.none ∧
    (H e = none ∧ h0.get? e = none) ∧ (H T = none ∧ h0.get? T = none)
/-- what was there ahead of a call and what is there when an exception of it comes -/
structure Come (P : Program) (w : World) (l : List Env) (H : Hp) (s : Shared) (H' : Hp) (s' : Shared) (e : Addr) (C : Value) : Prop where
  os : s'.os = s.os
  bare : AllBare s'.gens
  un : Un (frs l) [] H H' s.heap s'.heap
  hok : HOk P w H' s'.heap
  fly : Flies H' s.heap s'.heap e C
/-- the exceptions of a def: one of own class -/
def CXR (P : Program) (w : World) : CXT := fun l H s E e s' => ∃ ea C H', e = .ref ea ∧ Come P w l H s H' s' ea C ∧ E C none H'
section
variable {P : Program} {w : World} {l : List Env} {H H' : Hp} {s s' : Shared} {e : Addr} {C : Value}
/-- the noting of frames leaves all that counts -/
theorem come_after {base : Heap} {h2 : Heap} {a0 fl : Value} {T : Addr} (un : Un (frs l) [] H H' s.heap s'.heap) (hok : HOk P w H' s'.heap) (hl : s'.heap.FunFrames base l)
    (ne : H' e = none ∧ s.heap.get? e = none) (nT : H' T = none ∧ s.heap.get? T = none) (fr : ∀ b ∈ frs l, H' b = none)
    (st : (cutH s'.heap (e :: T :: frs l)).StaysIn h2) (up : s'.heap.UpToSlots h2) (tr : h2.TracedAtW (cutH s'.heap (e :: T :: frs l)) e C a0 fl) :
    Un (frs l) [] H H' s.heap h2 ∧ HOk P w H' h2 ∧ ∃ oe vs T' oT ts, h2.get? e = some oe ∧ (oe.cls = C ∧ vs[0]? = some a0) ∧ oe.data = .fields vs ∧ vs[1]? = some (Value.ref T') ∧ T' ≠ e ∧ h2.get? T' = some oT ∧ oT.data = .fields ts ∧ ts[3]? = some fl ∧ (H' T' = none ∧ s.heap.get? T' = none) := by
  have kp : ∀ b o, b ≠ e → b ≠ T → b ∉ frs l → s'.heap.get? b = some o → h2.get? b = some o := fun b o h1 h3 h4 h5 => st b o (cutH_some.mpr ⟨by simp [h1, h3, h4], h5⟩)
  have fs : ∀ b o, b ∈ frs l → s'.heap.get? b = some o → ∃ sl, h2.get? b = some { o with slots := sl } := fun b o hb ho => by
    obtain ⟨_, o', ho', hn⟩ := hl.mem hb
    rw [ho] at ho'
    cases ho'
    exact up b o ho hn
  have te : ∀ b u, H' b = some u → b ≠ e ∧ b ≠ T ∧ b ∉ frs l := fun b u h => ⟨fun z => (by rw [z, ne.1] at h; cases h), fun z => (by rw [z, nT.1] at h; cases h), fun z => (by rw [fr b z] at h; cases h)⟩
  have old : ∀ b o, s.heap.get? b = some o → b ≠ e ∧ b ≠ T := fun b o h => ⟨fun z => (by rw [z, ne.2] at h; cases h), fun z => (by rw [z, nT.2] at h; cases h)⟩
  refine ⟨⟨fun b o h1 h2' h3 h4 => ?_, fun b o h1 h2' h3 h4 => ?_, un.free, fun b o h1 h4 => ?_, un.tups, un.frzs, un.tbls⟩, fun a o ha => ?_, ?_⟩
  · exact kp b o (old b o h1).1 (old b o h1).2 h3 (un.keep b o h1 h2' h3 h4)
  · obtain ⟨sl, q⟩ := un.slot b o h1 h2' h3 h4
    obtain ⟨sl', q'⟩ := fs b _ h3 q
    exact ⟨sl', q'⟩
  · obtain ⟨o', q⟩ := un.there b o h1 h4
    by_cases hb : b ∈ frs l
    · obtain ⟨sl', q'⟩ := fs b _ hb q
      exact ⟨_, q'⟩
    · exact ⟨o', kp b o' (old b o h1).1 (old b o h1).2 hb q⟩
  · refine (hok a o ha).stay (fun b u hb q => ?_) (fun _ q => q) fun _ _ q => q
    have hb' : ∃ u, H' b = some u := by
      rcases hb with rfl | hb
      · exact ⟨_, ha⟩
      · exact ⟨_, hb⟩
    obtain ⟨u', hu⟩ := hb'
    obtain ⟨z1, z2, z3⟩ := te b u' hu
    exact kp b u z1 z2 z3 q
  · obtain ⟨oe, vs, T', oT, ts, h1, h2', h3, h4, h5, h6, h7, h8, h9⟩ := tr
    refine ⟨oe, vs, T', oT, ts, h1, h2', h3, h4, h6, h7, h8, h9, ?_⟩
    by_cases e1 : T' = T
    · rw [e1]; exact nT
    · have nf : T' ∉ frs l := fun hb => by
        obtain ⟨_, o', ho', hn⟩ := hl.mem hb
        obtain ⟨sl, q⟩ := up T' o' ho' hn
        rw [h7] at q
        cases q
        exact hn _ h8
      have nn : s'.heap.get? T' = none := by
        cases q : s'.heap.get? T' with
        | none => rfl
        | some o =>
          have := cutH_some.mpr ⟨(by simp [h6, e1, nf] : T' ∉ e :: T :: frs l), q⟩
          rw [h5] at this
          cases this
      refine ⟨?_, ?_⟩
      · cases q : H' T' with
        | none => rfl
        | some u =>
          obtain ⟨u', hu⟩ := objOk_there (hok T' u q)
          rw [nn] at hu
          cases hu
      · cases q : s.heap.get? T' with
        | none => rfl
        | some u =>
          obtain ⟨u', hu⟩ := un.there T' u q (by simp)
          rw [nn] at hu
          cases hu
end
end FW

set_option linter.all false
set_option Elab.async false
set_option maxRecDepth 100000
set_option maxHeartbeats 1000000
namespace FW
open PySem L2
/-- what this body wants of an exception is met whenever a callee's comes -/
def Lands (X : Cx) (W : Str → St → Hp → Prop) : Prop := ∀ (pins : List (Addr × Obj)) (σ : St) (H : Hp) (s : Shared) (e : Value) (s' : Shared),
  Inv X pins σ H s → CXR X.prog X.w X.stack H s (fun C _ H' => ∃ c, X.mg c = some C ∧ W c σ H') e s' → X.xe e s'
/-- .. and an exception that is made here -/
def LandsN (X : Cx) (W : Str → St → Hp → Prop) : Prop := ∀ (pins : List (Addr × Obj)) (σ : St) (H : Hp) (s : Shared) (h' : Heap) (e : Addr) (C : Value) (c : Str) (vs : List Value),
  Inv X pins σ H s → Heap.MadeExcOf s.heap h' e C vs → X.mg c = some C → W c σ H → X.xe (.ref e) { s with heap := h' }
theorem Un.gone {fs ex : List Addr} {H H' : Hp} {h h' : Heap} (u : Un fs ex H H' h h') {b : Addr} (hx : b ∉ ex) (q : h'.get? b = none) : h.get? b = none := by
  cases z : h.get? b with
  | none => rfl
  | some o =>
    obtain ⟨o', e⟩ := u.there b o z hx
    rw [q] at e
    cases e
section
variable {P : Program} {w : World} {K : PySem.W.Frag} {mg : Str → Option Value} {base : Heap} {N : List Str} {qual : Str} {scope : Scope} {f : Addr} {cd : Value} {A : Around} {outer : List Env} {s0 : Shared} {H0 : Hp} {E : XK}
theorem noCh {X : Cx} {pins : List (Addr × Obj)} : ∀ b ∈ ([] : List Addr), (b ∈ X.ex ∨ X.s_0.heap.objs.size ≤ b) ∧ b ≠ X.env.locals ∧ (∀ x c, X.env.cells.lookup x = some c → c ≠ b) ∧ ∀ p ∈ X.pn ++ pins, p.1 ≠ b := fun b z => absurd z (by simp)
theorem lands_fn : Lands (cxOf (CXR P w) P w K mg base N qual scope f cd A outer s0 H0 E) (fun c _ H' => ∀ C, mg c = some C → E C none H') := by
  intro pins σ H s e s' I ⟨ea, C, H', he, c, q⟩
  subst he
  obtain ⟨cn, mc, wq⟩ := q
  have q : E C none H' := wq C mc
  have J := I.call' c.os c.un c.hok c.bare (ch := []) noCh
  have hl := J.stack
  obtain ⟨oe, vs, a0, T, oT, ts, h1, h2, h3, h4, h5, h6, h7, h8, h9, h10⟩ := c.fly
  have hb : (cutH s'.heap (ea :: T :: frs (cxOf (CXR P w) P w K mg base N qual scope f cd A outer s0 H0 E).stack)).StaysIn s'.heap := fun b o z => (cutH_some.mp z).2
  refine wpAny_leaving_nextW (base := cutH s'.heap (ea :: T :: frs (cxOf (CXR P w) P w K mg base N qual scope f cd A outer s0 H0 E).stack)) (cls := C) (a0 := a0) (L := s0.heap.objs.size) I.ok.frames (funFrames_cut (fun b hb => List.mem_cons_of_mem _ (List.mem_cons_of_mem _ hb)) hl) rfl
    ⟨oe, vs, T, oT, ts, h1, h2, h3, h4, cutH_none (by simp), h5, h6, h7, h8⟩ hb (cutH_none (by simp)) fun h' hL => ?_
  obtain ⟨k1, k2, k3, k4⟩ := hL
  obtain ⟨u1, u2, oe', vs', T', oT', ts', g1, g2, g3, g4, g5, g6, g7, g8, g9⟩ := come_after c.un c.hok hl h9 h10 J.stkFree k1 k4 k3.at
  have J2 : Inv (cxOf (CXR P w) P w K mg base N qual scope f cd A outer s0 H0 E) pins σ H' { s' with heap := h' } := I.call' (s' := { s' with heap := h' }) c.os u1 u2 c.bare (ch := []) noCh
  exact ⟨ea, C, H', rfl, ⟨J2.os, J2.bare, J2.base, J2.hok, oe', vs', a0, T', oT', ts', g1, g2, g3, g4, g5, g6, g7, g8, ⟨h9.1, Un.gone I.base (by simp [cxOf]) h9.2⟩, ⟨g9.1, Un.gone I.base (by simp [cxOf]) g9.2⟩⟩, q⟩
theorem landsN_fn : LandsN (cxOf (CXR P w) P w K mg base N qual scope f cd A outer s0 H0 E) (fun c _ H' => ∀ C, mg c = some C → E C none H') := by
  intro pins σ H s h1 ea C cn args I hx mc wq
  have q : E C none H := wq C mc
  obtain ⟨t, he, htn, ht⟩ := hx.there
  have un : Un (frs (cxOf (CXR P w) P w K mg base N qual scope f cd A outer s0 H0 E).stack) [] H H s.heap h1 := Un.kept hx.keeps
  have hok := I.hok.kept hx.keeps
  have J : Inv (cxOf (CXR P w) P w K mg base N qual scope f cd A outer s0 H0 E) pins σ H { s with heap := h1 } := I.call' (s' := { s with heap := h1 }) rfl un hok I.bare (ch := []) noCh
  have hl := J.stack
  have ne1 : H ea = none := by
    cases z : H ea with
    | none => rfl
    | some u =>
      obtain ⟨u', hu⟩ := objOk_there (I.hok ea u z)
      rw [hx.new] at hu
      cases hu
  have ne : H ea = none ∧ s.heap.get? ea = none := ⟨ne1, hx.new⟩
  have hb : (cutH h1 (ea :: ea :: frs (cxOf (CXR P w) P w K mg base N qual scope f cd A outer s0 H0 E).stack)).StaysIn h1 := fun b o z => (cutH_some.mp z).2
  refine wpAny_leaving_firstW (s := { s with heap := h1 }) (base := cutH h1 (ea :: ea :: frs (cxOf (CXR P w) P w K mg base N qual scope f cd A outer s0 H0 E).stack)) (a0 := .ref t) (L := s0.heap.objs.size) I.ok.frames (funFrames_cut (fun b hb => List.mem_cons_of_mem _ (List.mem_cons_of_mem _ hb)) hl) rfl
    he hb (cutH_none (by simp)) rfl rfl rfl fun h' hL => ?_
  obtain ⟨k1, k2, k3, k4⟩ := hL
  obtain ⟨u1, u2, oe', vs', T', oT', ts', g1, g2, g3, g4, g5, g6, g7, g8, g9⟩ := come_after (s' := { s with heap := h1 }) un hok hl ne ne J.stkFree k1 k4 k3.at
  have J2 : Inv (cxOf (CXR P w) P w K mg base N qual scope f cd A outer s0 H0 E) pins σ H { s with heap := h' } := I.call' (s' := { s with heap := h' }) rfl u1 u2 I.bare (ch := []) noCh
  exact ⟨ea, _, H, rfl, ⟨J2.os, J2.bare, J2.base, J2.hok, oe', vs', _, T', oT', ts', g1, g2, g3, g4, g5, g6, g7, g8, ⟨ne.1, Un.gone I.base (by simp [cxOf]) ne.2⟩, ⟨g9.1, Un.gone I.base (by simp [cxOf]) g9.2⟩⟩, q⟩
end
abbrev veM : List Value := [.type "ValueError", .type "Exception", .type "BaseException", .type "object"]
/-- an own class below ValueError, by its name -/
def ClsX (K : PySem.W.Frag) (mg : Str → Option Value) (c : Str) : Prop := ∃ C, mg c = some (.ref C) ∧ PySem.W.excIn K C veM "ValueError.__new__" = true
abbrev XX := Nat → En → Option (Str × En)
/-- the raising reading of statements: the class, the names' values there -/
def tX (K : PySem.W.Frag) (W : Str → St → Hp → Prop) (x : XX) : TS := fun _ σ H => ∃ M B H0 G env n c env', Up G ∧ SR K M B H0 G env σ H ∧ x n env = some (c, env') ∧ ∀ σ' H', SR K M B H0 G env' σ' H' → W c σ' H'
def tXE (K : PySem.W.Frag) (W : Str → St → Hp → Prop) (x : En → Option Str) : TE := fun σ H _ => ∃ M O env c, ER K M O env σ H ∧ x env = some c ∧ ∀ H', Same H H' → W c σ H'
def xRaise (c : Str) (xs : AX) : XX := fun _ env => (xs env).bind fun ds => if ds.length ≤ lim then some (c, env) else none
section
variable {X : Cx} {W : Str → St → Hp → Prop}
end
end FW

set_option linter.all false
set_option Elab.async false
set_option maxRecDepth 100000
set_option maxHeartbeats 1000000
namespace FW
open PySem L2
def xThen (a : SX) (x : XX) : XX := fun n env => (a n env).bind fun o => match o with
  | .nx e => x n e
  | _ => none
def xOr (x y : XX) : XX := fun n env => match x n env with
  | some r => some r
  | none => y n env
def xIf (c : BX) (x y : XX) : XX := fun n env => (c env).bind fun v => match v with
  | .bl true => x n env
  | .bl false => y n env
  | _ => none
def xNo : XX := fun _ _ => none
/-- a call that raises -/
def cX (XF : List D → Option Str) (n : Nat) (xs : AX) : En → Option Str := fun env => (xs env).bind fun ds => if ds.length = n then XF ds else none
def xE (x : En → Option Str) : XX := fun _ env => (x env).map fun c => (c, env)
section
variable {X : Cx} {W : Str → St → Hp → Prop}
end
/-! ## defs that raise -/
def SpX (K : PySem.W.Frag) (mg : Str → Option Value) (n : Nat) (XF : List D → Option Str) : Sp := fun vs H _ E => vs.length = n ∧ ∃ ds c, DVs K H ds vs ∧ XF ds = some c ∧ ∀ C H', mg c = some C → Same H H' → E C none H'
def CalX (P : Program) (w : World) (K : PySem.W.Frag) (mg : Str → Option Value) (base : Heap) (k : Nat) (x : Str) (n : Nat) (XF : List D → Option Str) : Prop :=
  ∃ (f : Addr) (fd : FuncData) (ps : List Str), mg x = some (.ref f) ∧ PySem.W.keepIn K (.ref f) = true ∧ Binds K fd ps [] ∧ FnOk P w K mg base (CXR P w) k f fd ps (SpX K mg n XF)
theorem CalX.imp {P : Program} {w : World} {K : PySem.W.Frag} {mg : Str → Option Value} {base : Heap} {k n : Nat} {x : Str} {F F' : List D → Option Str} (h : CalX P w K mg base k x n F) (hF : ∀ ds r, F' ds = some r → F ds = some r) : CalX P w K mg base k x n F' := by
  obtain ⟨f, fd, ps, h1, h2, h3, h4⟩ := h
  exact ⟨f, fd, ps, h1, h2, h3, h4.imp fun vs H Q E ⟨q1, ds, r, q2, q3, q4⟩ => ⟨q1, ds, r, q2, hF _ _ q3, q4⟩⟩
section
variable {X : Cx} {W : Str → St → Hp → Prop}
end
def fnX (m : Nat) (x : XX) (n : Nat) (ds : List D) : Option Str := (x n (ds.map Sl.pu ++ List.replicate (m - ds.length) .un)).map (·.1)
end FW

set_option linter.all false
set_option Elab.async false
set_option maxRecDepth 100000
set_option maxHeartbeats 1000000
namespace FW
open PySem L2
theorem CalX.mk {P : Program} {w : World} {K : PySem.W.Frag} {mg : Str → Option Value} {base : Heap} {x qual : Str} {st : Stmt} {f : Addr} {fd : FuncData} {N ps : List Str} {k : Nat} {sx : XX} {Fn : List D → Option Str}
    (F : Fun K x qual st f fd) (mf : mg x = some (.ref f)) (bf : Binds K fd ps []) (S : FnScope N ps (defScope st)) (hN : ps.length ≤ N.length) (hF : ∀ ds c, Fn ds = some c → ∃ n, fnX N.length sx n ds = some c)
    (hb : ∀ (cdv : Value) (A : Around) (outer : List Env) (s0 : Shared) (H : Hp) (E : XK), Room k (A.deeper (PyProof.Rows.envOfC qual (defScope st) s0.heap.objs.size f cdv)) →
      Lands (cxOf (CXR P w) P w K mg base N qual (defScope st) f cdv A outer s0 H E) (fun c _ H' => ∀ C, mg c = some C → E C none H') →
      LandsN (cxOf (CXR P w) P w K mg base N qual (defScope st) f cdv A outer s0 H E) (fun c _ H' => ∀ C, mg c = some C → E C none H') →
      PSs (cxOf (CXR P w) P w K mg base N qual (defScope st) f cdv A outer s0 H E) (defBody st) (tX K (fun c _ H' => ∀ C, mg c = some C → E C none H') sx)) :
    CalX P w K mg base (k + 1) x ps.length Fn := by
  refine ⟨f, fd, ps, mf, F.kp, bf, ?_⟩
  obtain ⟨oc, od, kV, doc, pm, an, cdv, ct, osl, rfl, lk, hcd⟩ := F.ex
  refine fn_of lk hcd S (fun vs H Q E h => h.1) fun A outer s H vs Q E hr hsp => ⟨_, hb cdv A outer s H E hr lands_fn landsN_fn, ?_⟩
  obtain ⟨hl, ds, c, dv, e, kq⟩ := hsp
  obtain ⟨n, e⟩ := hF ds c e
  unfold fnX at e
  have e0 : off H [] = H := by funext b; simp [off]
  have R := start_ok (N := N) (O := []) (K := K) (H := H) (by rw [e0]; exact dv) (fun p hp => absurd hp (by simp)) (by rw [hl]; exact hN)
  cases q : sx n (ds.map Sl.pu ++ List.replicate (N.length - ds.length) Sl.un) with
  | none => rw [q] at e; cases e
  | some r =>
    obtain ⟨c', env'⟩ := r
    rw [q] at e
    cases e
    exact ⟨none, [], H, _, _, n, _, env', fun _ _ _ z => z, R, q, fun σ' H' ⟨O', R'⟩ C mc => kq C H' mc (fun b o z => R'.same b o (by intro q; cases q) z)⟩
/-! ## try -/
abbrev _root_.L2.Cx.marked (X : Cx) (v : Value) : Cx := { X with A := X.A.mark (some v), calm := false, xe := fun _ _ => False }
abbrev _root_.L2.Cx.held (X : Cx) (pn : List (Addr × Obj)) (xe : Value → Shared → Prop) : Cx := { X with pn := pn, xe := xe }
section
variable {X : Cx} {pins : List (Addr × Obj)} {σ : St} {H : Hp} {s : Shared}
end
/-- what the clauses do with an exception of the class c -/
def Hnd (X : Cx) (c : Str) (hs : List ExceptHandler) (sx : SX) : Prop :=
  ∀ (pins : List (Addr × Obj)) (σ : St) (H : Hp) (s : Shared) (H' : Hp) (s' : Shared) (e : Addr) (C : Value) (D : Ends), L2.Inv X pins σ H s → Come X.prog X.w X.stack H s H' s' e C → X.mg c = some C → tS X.K sx D σ H' →
    wpAny (model X.prog X.w) X.A (handleBy (.ref e) X.env hs) (SP X pins D) X.xe s'
section
variable {X : Cx}
/-- exceptions of the class c match the class d -/
def Exm (K : PySem.W.Frag) (mg : Str → Option Value) (c d : Str) (b : Bool) : Prop := ∃ C D, mg c = some C ∧ mg d = some D ∧ PySem.W.exmOne K C D = some b
def sTry (b : SX) (x : XX) (h : Str → Option SX) : SX := fun n env => match x n env with
  | some (c, env') => (h c).bind fun sx => sx n env'
  | none => b n env
end
end FW
namespace FW
open PySem L2
def hlk (l : List (Str × SX)) (c : Str) : Option SX := l.lookup c
section
variable {X : Cx} {hs : List ExceptHandler}
end
end FW
namespace FW
open PySem L2
section
variable {X : Cx} {W : Str → St → Hp → Prop} {pos : Pos}
end
end FW

set_option linter.all false
set_option Elab.async false
set_option maxRecDepth 100000
set_option maxHeartbeats 1000000
namespace FW
open PySem L2
/-! ## list + list -/
def eCat (x y : BX) : EX := fun env => (x env).bind fun c => (y env).bind fun d => match c, d with
  | .lst a, .lst b => if a.length + b.length ≤ lim then some ⟨.lst (a ++ b), true⟩ else none
  | _, _ => none
section
variable {X : Cx} {pos : Pos}
def rCatS (K : PySem.W.Frag) : R2 := fun x y H Q => ∃ l b xs zs, x = .ref l ∧ y = .ref b ∧ SqL K H l xs ∧ SqL K H b zs ∧ xs.length + zs.length ≤ sizeLine ∧ ∀ p, H p = none → Q (.ref p) (upd H p (.lst (xs ++ zs)))
theorem op_catS : OpR X (binaryOp .Add) (rCatS X.K) := by
  intro pins s σ H x y v u Q I rx ry h
  obtain ⟨l, b, xs, zs, rfl, rfl, hH, hB, hz, q⟩ := h
  cases rx
  cases ry
  obtain ⟨its, r, ⟨o1, n1, ho, hc, hd0, hd⟩, _⟩ := I.list hH
  obtain ⟨its2, r2, ⟨o2, n2, ho2, hc2, hd02, hd2⟩, _⟩ := I.list hB
  obtain ⟨cls, dd, data, sl⟩ := o1
  obtain ⟨cls2, dd2, data2, sl2⟩ := o2
  simp only at hc hd hc2 hd2
  subst hc hd hc2 hd2
  have e : its.toArray ++ its2.toArray = (its ++ its2).toArray := by simp
  refine PySem.concat_meets ⟨_, ho, rfl⟩ ⟨_, ho2, rfl⟩ PySem.noFill_list_add PySem.seq_list_add PySem.F.slot_list_add PySem.F.entry_list_add (PySem.F.args_list_add_2 _ _) (PyProof.Rows.list_addW l b its.toArray its2.toArray n1 n2 dd dd2 sl sl2 (by rw [List.size_toArray, List.size_toArray, ← r.length, ← r2.length]; exact hz)) ⟨ho, ho2, ?_⟩
  rw [e]
  exact ⟨.ref _, _, I.lnew (t' := s.toks) (r.append r2) (by rw [List.length_append]; exact hz), rfl, q _ I.fresh⟩
theorem ce_cat {a b : Expr} {x y : BX} (ha : PE X a (tB X.K x)) (hb : PE X b (tB X.K y)) : PE X (.BinOp a .Add b pos) (tE X.K (eCat x y)) := (pe_op op_catS ha hb).imp fun σ H Q ⟨M, O, env, r, er, e, k⟩ => by
  unfold eCat at e
  cases q1 : x env with
  | none => rw [q1] at e; cases e
  | some d1 =>
    cases q2 : y env with
    | none => rw [q1, q2] at e; cases e
    | some d2 =>
      rw [q1, q2] at e
      simp only [Option.bind_some] at e
      split at e
      rotate_left
      · cases e
      rename_i da db
      split at e
      rotate_left
      · cases e
      rename_i hl
      cases e
      refine ⟨M, O, env, _, er, q1, fun v H1 s1 r1 => ⟨M, O, env, _, er.mono s1, q2, fun w H2 s2 r2 => ?_⟩⟩
      obtain ⟨p, vs, rfl, h1, h2⟩ := (r1.mono s2).lst
      obtain ⟨p', vs', rfl, h1', h2'⟩ := r2.lst
      refine ⟨p, p', vs, vs', rfl, rfl, h1, h1', by rw [h2.length, h2'.length]; exact lim_ok hl, fun p2 hp => k _ _ ((s1.trans s2).trans (same_upd hp)) ⟨?_, fun _ => ⟨p2, rfl, (s1.trans s2).free hp, vs ++ vs', upd_same, (h2.append h2').mono (off_new (same_upd hp) hp)⟩⟩⟩
      simp only [DV]
      have np : p2 ∉ O := fun z => ((er.mono s1).mono s2).dom p2 z hp
      exact ⟨p2, vs ++ vs', rfl, .of (off_some.mpr ⟨np, upd_same⟩), (h2.append h2').mono (off_mono (same_upd hp))⟩
@[simp] theorem eCat_a {x y : BX} {env : En} : eCat x y env = (x env).bind fun c => (y env).bind fun d => match c, d with
  | .lst a, .lst b => if a.length + b.length ≤ lim then some ⟨.lst (a ++ b), true⟩ else none
  | _, _ => none := rfl
end
end FW

set_option linter.all false
set_option Elab.async false
set_option maxRecDepth 100000
set_option maxHeartbeats 1000000
namespace FW
open PySem L2
/-! ## a def that gives an atom and a thing of its own as a pair -/
structure T2 where
  w : D
  m : D
  fr : Bool
def TOk (K : PySem.W.Frag) (O : List Addr) (H H' : Hp) (v : V) (r : T2) : Prop := ∃ t a b, v = .ref t ∧ SqT K H' t [a, b] ∧ r.w.at = true ∧ a = r.w.v ∧ RVok K O H H' b ⟨r.m, r.fr⟩
def SpT (K : PySem.W.Frag) (n : Nat) (F : List D → Option T2) : Sp := fun vs H Q _ => vs.length = n ∧ ∃ O ds r, (∀ p ∈ O, H p ≠ none) ∧ DVs K (off H O) ds vs ∧ F ds = some r ∧ ∀ v H', Same H H' → TOk K O H H' v r → Q v H'
def CalT (P : Program) (w : World) (K : PySem.W.Frag) (mg : Str → Option Value) (base : Heap) (k : Nat) (x : Str) (n : Nat) (F : List D → Option T2) : Prop :=
  ∃ (f : Addr) (fd : FuncData) (ps : List Str), mg x = some (.ref f) ∧ PySem.W.keepIn K (.ref f) = true ∧ Binds K fd ps [] ∧ FnOk P w K mg base CX0 k f fd ps (SpT K n F)
abbrev CC := Nat → En → Option T2
def tC (K : PySem.W.Frag) (c : CC) : TS := fun D σ H => ∃ B H0 G env n r, Up G ∧ SR K none B H0 G env σ H ∧ c n env = some r ∧ ∀ v H', (∀ b o, H0 b = some o → H' b = some o) → TOk K B H0 H' v r → D.rt v H'
def cThen (a : SX) (c : CC) : CC := fun n env => (a n env).bind fun o => match o with
  | .nx e => c n e
  | _ => none
def cRet (i j : Nat) : CC := fun _ env => match env[i]?, env[j]? with
  | some (.pu w), some (.mu m) => if w.at then some ⟨w, m, true⟩ else none
  | some (.pu w), some (.pu m) => if w.at then some ⟨w, m, false⟩ else none
  | _, _ => none
section
variable {X : Cx} {pos : Pos}
end
def fnT (m : Nat) (c : CC) (n : Nat) (ds : List D) : Option T2 := c n (ds.map Sl.pu ++ List.replicate (m - ds.length) Sl.un)
theorem CalT.mk {P : Program} {w : World} {K : PySem.W.Frag} {mg : Str → Option Value} {base : Heap} {x qual : Str} {st : Stmt} {f : Addr} {fd : FuncData} {N ps : List Str} {k : Nat} {c : CC} {Fn : List D → Option T2}
    (F : Fun K x qual st f fd) (mf : mg x = some (.ref f)) (bf : Binds K fd ps []) (S : FnScope N ps (defScope st)) (hN : ps.length ≤ N.length) (hF : ∀ ds r, Fn ds = some r → ∃ n, fnT N.length c n ds = some r)
    (hb : ∀ (cdv : Value) (A : Around) (outer : List Env) (s0 : Shared) (H : Hp) (E : XK), Room k (A.deeper (PyProof.Rows.envOfC qual (defScope st) s0.heap.objs.size f cdv)) → PSs (cxOf CX0 P w K mg base N qual (defScope st) f cdv A outer s0 H E).nox (defBody st) (tC K c)) :
    CalT P w K mg base (k + 1) x ps.length Fn := by
  refine ⟨f, fd, ps, mf, F.kp, bf, F.ok S (fun vs H Q E h => h.1) (fun cdv A outer s0 H vs Q E hr h => ⟨_, hb cdv A outer s0 H E hr, ?_⟩)⟩
  obtain ⟨hl, O, ds, r, dom, dv, e, kq⟩ := h
  obtain ⟨n, e⟩ := hF ds r e
  have R := start_ok (N := N) dv dom (by rw [hl]; exact hN)
  exact ⟨O, H, _, _, n, r, fun _ _ _ z => z, R, e, fun v H' sm ok => kq v H' (fun b o z => sm b o z) ok⟩
/-! the caller: two names get it -/
def sAsgT (i j n : Nat) (F : List D → Option T2) (xs : AX) : SX := fun _ env => (xs env).bind fun ds => if ds.length = n then (F ds).map fun r => .nx ((env.set j (slotOf ⟨r.m, r.fr⟩)).set i (.pu r.w)) else none
section
variable {X : Cx} {pos : Pos}
end
end FW

set_option linter.all false
set_option Elab.async false
set_option maxRecDepth 100000
set_option maxHeartbeats 1000000
namespace FW
open PySem L2
/-! ## int of an int or a bool -/
def fInt1 : List D → Option D
  | [.int i] => some (.int i)
  | [.bl k] => some (.int (if k then 1 else 0))
  | _ => none
section
variable {X : Cx} {e : Expr} {xs : AX} {p pos : Pos}
theorem boot_intT : bootBuiltins "int" = some (.type "int") := by first | rfl | decide +kernel
@[simp] theorem fInt1_b {k : Bool} : fInt1 [.bl k] = some (.int (if k then 1 else 0)) := rfl
end
end FW

set_option linter.all false
set_option Elab.async false
set_option maxRecDepth 100000
set_option maxHeartbeats 1000000
namespace FW
open PySem L2
/-! ## d.pop(k), d.pop(k, x) as statements; d[a], d[b] = x, y; for .. in a new dict -/
def sDpop2 (i : Nat) (k : BX) (x : BX) : SX := fun _ env => (ownD i env).bind fun c => match c with
  | .dic kvs => (k env).bind fun kd => (x env).bind fun _ => (keyD kd).bind fun ky => some (.nx (if (valD kvs ky).isSome then setMu i (.dic (dropD kvs ky)) env else env))
  | _ => none
@[simp] theorem sDpop2_a {i n : Nat} {k x : BX} {env : En} : sDpop2 i k x n env = (ownD i env).bind fun c => match c with
  | .dic kvs => (k env).bind fun kd => (x env).bind fun _ => (keyD kd).bind fun ky => some (.nx (if (valD kvs ky).isSome then setMu i (.dic (dropD kvs ky)) env else env))
  | _ => none := rfl
section
variable {X : Cx}
/-! a target d[k] -/
def tsD : TSet := fun o i v H Q => ∃ a H', o = .ref a ∧ DPut H a i v H' ∧ Q H'
def gdDput (i : Nat) (k : BX) : D → En → Option En := fun d env => (ownD i env).bind fun c => match c with
  | .dic kvs => (k env).bind fun kd => (keyD kd).bind fun ky => if kvs.length < lim then some (setMu i (.dic (putD kvs ky d)) env) else none
  | _ => none
/-- two targets at once: the second gets a number -/
def gdTwo (g1 g2 : D → En → Option En) : D → En → Option En := fun d env => match d with
  | .tup [a, .int b] => (g1 a env).bind fun e => g2 (.int b) e
  | _ => none
/-! for .. in a new dict -/
def iKeysF (td : TE) : TI := fun σ H R => td σ H fun x H1 => ∃ d kvs, x = .ref d ∧ H1 d = some (.dK kvs) ∧ ∀ o, R (Itk d o kvs) (upd H1 d (.frz o (.dK kvs)))
def srcD (x : EX) : AX := fun env => (x env).bind fun r => match r.fr, r.d with
  | true, .dic kvs => some (keysD kvs)
  | _, _ => none
end
end FW

set_option linter.all false
set_option Elab.async false
set_option maxRecDepth 100000
set_option maxHeartbeats 1000000
namespace FW
open PySem L2
/-! ## a dict of numbers is not unlike itself -/
noncomputable section
open Classical in
def fNeW (d e : D) : Option D := if ∃ w : Wb, (keysI w).Nodup ∧ d = .dic (dw w) ∧ e = .dic (dw w) then some (.bl false) else none
def wV (w : Wb) : List (Key × V) := w.map fun p => (.inl p.1, .int p.2)
def rNeW : V → V → Hp → VK → Prop := fun x y H Q => ∃ a b w, x = .ref a ∧ y = .ref b ∧ (keysI w).Nodup ∧ Rd H a (.dK (wV w)) ∧ Rd H b (.dK (wV w)) ∧ Q (.bl false) H
section
variable {X : Cx} {a b : Expr} {pos : Pos} {x y : BX}
end
end
end FW

set_option linter.all false
set_option Elab.async false
set_option maxRecDepth 100000
set_option maxHeartbeats 1000000
namespace FW
open PySem L2
/-! ## any of a list of truths -/
def fAny : List D → Option D
  | [.lst ds] => (blsD ds).map fun bs => .bl (bs.any id)
  | _ => none
@[simp] theorem fAny_l {ds : List D} : fAny [.lst ds] = (blsD ds).map fun bs => .bl (bs.any id) := rfl
section
variable {X : Cx} {e : Expr} {xs : AX} {p pos : Pos}
end
end FW

set_option linter.all false
set_option Elab.async false
set_option maxRecDepth 100000
set_option maxHeartbeats 1000000
namespace FW
open PySem L2
/-! ## a new list times a number -/
def eRep (x : EX) (y : BX) : EX := fun env => (x env).bind fun r => (y env).bind fun d => match r, d with
  | ⟨.lst a, true⟩, .int k => if a.length * k.toNat ≤ lim ∧ -1000000 ≤ k ∧ k ≤ 1000000 then some ⟨.lst (List.replicate k.toNat a).flatten, true⟩ else none
  | _, _ => none
section
variable {X : Cx} {pos : Pos}
theorem DVs.rep {K : PySem.W.Frag} {H : Hp} {ds : List D} {vs : List V} (h : DVs K H ds vs) : ∀ k : Nat, DVs K H (List.replicate k ds).flatten (List.replicate k vs).flatten
  | 0 => by simp [DVs]
  | k + 1 => by
    rw [List.replicate_succ, List.replicate_succ, List.flatten_cons, List.flatten_cons]
    exact h.append (DVs.rep h k)
theorem ce_rep {a b : Expr} {x : EX} {y : BX} (ha : PE X a (tE X.K x)) (hb : PE X b (tB X.K y)) : PE X (.BinOp a .Mult b pos) (tE X.K (eRep x y)) := (pe_op op_rep ha hb).imp fun σ H Q ⟨M, O, env, r, er, e, k⟩ => by
  unfold eRep at e
  cases q1 : x env with
  | none => rw [q1] at e; cases e
  | some d1 =>
    cases q2 : y env with
    | none => rw [q1, q2] at e; cases e
    | some d2 =>
      rw [q1, q2] at e
      simp only [Option.bind_some] at e
      split at e
      rotate_left
      · cases e
      rename_i da n
      split at e
      rotate_left
      · cases e
      rename_i hl
      cases e
      refine ⟨M, O, env, _, er, q1, fun v H1 s1 r1 => ⟨M, O, env, _, er.mono s1, q2, fun w H2 s2 r2 => ?_⟩⟩
      obtain ⟨p, rfl, hn, vs, h1, h2⟩ := r1.2 rfl
      rw [r2.int]
      have h2' : DVs X.K (off H2 O) da vs := (h2.mono (off_sub (fun b hb => List.mem_cons_of_mem _ hb))).mono (off_mono s2)
      refine ⟨p, n, vs, rfl, rfl, s2 _ _ h1, by omega, by omega, by rw [h2.length]; exact lim_ok hl.1, fun p2 hp => k _ _ ((s1.trans s2).trans (same_upd hp)) ⟨?_, fun _ => ⟨p2, rfl, (s1.trans s2).free hp, _, upd_same, (h2'.rep _).mono (off_new (same_upd hp) hp)⟩⟩⟩
      simp only [DV]
      have np : p2 ∉ O := fun z => ((er.mono s1).mono s2).dom p2 z hp
      exact ⟨p2, _, rfl, .of (off_some.mpr ⟨np, upd_same⟩), (h2'.rep _).mono (off_mono (same_upd hp))⟩
@[simp] theorem eRep_a {x : EX} {y : BX} {env : En} : eRep x y env = (x env).bind fun r => (y env).bind fun d => match r, d with
  | ⟨.lst a, true⟩, .int k => if a.length * k.toNat ≤ lim ∧ -1000000 ≤ k ∧ k ≤ 1000000 then some ⟨.lst (List.replicate k.toNat a).flatten, true⟩ else none
  | _, _ => none := rfl
end
/-! ## for x in xs: if t: return e (xs a list of one's own that stays so) -/
def loopC (j : Nat) (t : BX) (x : EX) : List D → En → Option Out
  | [], env => some (.nx env)
  | d :: ds, env => (t (env.set j (.pu d))).bind fun b => match b with
    | .bl true => (x (env.set j (.pu d))).map fun r => .rt r (env.set j (.pu d))
    | .bl false => loopC j t x ds (env.set j (.pu d))
    | _ => none
def sChk (i j : Nat) (t : BX) (x : EX) : SX := fun _ env => match env[i]? with
  | some (.mu (.lst ds)) => if i = j then none else loopC j t x ds env
  | _ => none
section
variable {X : Cx} {pos : Pos}
end
@[simp] theorem sChk_a {i j n : Nat} {t : BX} {x : EX} {env : En} : sChk i j t x n env = (match env[i]? with
  | some (.mu (.lst ds)) => if i = j then none else loopC j t x ds env
  | _ => none) := rfl
end FW

set_option linter.all false
set_option Elab.async false
set_option maxRecDepth 100000
set_option maxHeartbeats 1000000
namespace FW
open PySem L2
/-! ## objects: fields -/
abbrev Fs := List (Key × D)
def kf (fs : List (Str × V)) : List (Key × V) := fs.map fun p => (.inr p.1, p.2)
def fldD (kvs : Fs) (f : Str) : Option D := valD kvs (.inr f)
def putA (f : Str) (d : D) : Fs → Fs
  | [] => [(.inr f, d)]
  | (k, x) :: r => if k = .inr f then (k, d) :: r else (k, x) :: putA f d r
theorem DVk.putA {K : PySem.W.Frag} {H : Hp} {f : Str} {d : D} {v : V} (hv : DV K H d v) : ∀ {ds : Fs} {fs : List (Str × V)}, DVk K H ds (kf fs) → DVk K H (FW.putA f d ds) (kf (putF f v fs))
  | [], fs, h => by
    cases fs with
    | nil => simp only [FW.putA, kf, putF, List.map_cons, List.map_nil, DVk, DVp]; exact ⟨v, [], rfl, hv, rfl⟩
    | cons q fs => simp only [DVk, kf, List.map_cons] at h; cases h
  | (k, x) :: ds, fs, h => by
    cases fs with
    | nil => simp only [DVk, kf, List.map_nil] at h; obtain ⟨_, _, z, _⟩ := h; cases z
    | cons q fs =>
      obtain ⟨g, y⟩ := q
      simp only [DVk, DVp, kf, List.map_cons] at h
      obtain ⟨w, r, e, h1, h2⟩ := h
      cases e
      by_cases c : g = f
      · subst c
        simp only [FW.putA, putF, if_true, kf, List.map_cons, DVk, DVp]
        exact ⟨v, _, rfl, hv, h2⟩
      · have c' : ¬ ((Sum.inr g : Key) = .inr f) := fun z => c (by cases z; rfl)
        simp only [FW.putA, putF, c, c', if_false, kf, List.map_cons, DVk, DVp]
        exact ⟨y, _, rfl, h1, DVk.putA hv h2⟩
theorem DVk.len {K : PySem.W.Frag} {H : Hp} {ds : Fs} {ws : List (Key × V)} (h : DVk K H ds ws) : ws.length = ds.length := by
  have := congrArg List.length h.keys
  simpa using this
def eFld (C : Addr) (x : BX) (f : Str) : EX := fun env => (x env).bind fun c => match c with
  | .obj C' kvs => if C' = C then (fldD kvs f).map fun d => ⟨d, false⟩ else none
  | _ => none
@[simp] theorem eFld_a {C : Addr} {x : BX} {f : Str} {env : En} : eFld C x f env = (x env).bind fun c => match c with
  | .obj C' kvs => if C' = C then (fldD kvs f).map fun d => ⟨d, false⟩ else none
  | _ => none := rfl
section
variable {X : Cx} {pos : Pos}
/-- o.f = e -/
def sFldS (C : Addr) (i : Nat) (f : Str) (x : EX) : SX := fun _ env => (x env).bind fun r => (ownD i env).bind fun c => match c with
  | .obj C' kvs => if C' = C ∧ kvs.length < 100 then some (.nx (setMu i (.obj C (putA f r.d kvs)) env)) else none
  | _ => none
@[simp] theorem sFldS_a {C : Addr} {i n : Nat} {f : Str} {x : EX} {env : En} : sFldS C i f x n env = (x env).bind fun r => (ownD i env).bind fun c => match c with
  | .obj C' kvs => if C' = C ∧ kvs.length < 100 then some (.nx (setMu i (.obj C (putA f r.d kvs)) env)) else none
  | _ => none := rfl
/-- o.f op= e, ints -/
def sFldAugS (C : Addr) (g : Int → Int → Int) (i : Nat) (f : Str) (x : BX) : SX := fun _ env => (ownD i env).bind fun c => (x env).bind fun d => match c, d with
  | .obj C' kvs, .int b => if C' = C ∧ kvs.length < 100 then (match fldD kvs f with
    | some (.int a) => some (.nx (setMu i (.obj C (putA f (.int (g a b)) kvs)) env))
    | _ => none) else none
  | _, _ => none
end
end FW

set_option linter.all false
set_option Elab.async false
set_option maxRecDepth 100000
set_option maxHeartbeats 1000000
namespace FW
open PySem L2
/-! ## methods that only look -/
def MCal (P : Program) (w : World) (K : PySem.W.Frag) (mg : Str → Option Value) (base : Heap) (k : Nat) (C : Addr) (m : Str) (n : Nat) (F : List D → Option RV) : Prop :=
  ∃ (f : Addr) (fd : FuncData) (ps : List Str), Cls K C ∧ Meth K C m f ∧ Binds K fd ps [] ∧ FnOk P w K mg base CX0 k f fd ps (SpF K n F)
theorem MCal.mk {P : Program} {w : World} {K : PySem.W.Frag} {mg : Str → Option Value} {base : Heap} {x qual : Str} {st : Stmt} {f C : Addr} {m : Str} {fd : FuncData} {N ps : List Str} {k : Nat} {s : SX} {Fn : List D → Option RV}
    (F : Fun K x qual st f fd) (c : Cls K C) (mf : Meth K C m f) (bf : Binds K fd ps []) (S : FnScope N ps (defScope st)) (hN : ps.length ≤ N.length) (hF : ∀ ds r, Fn ds = some r → ∃ n, fnD N.length s n ds = some r)
    (hb : ∀ (cdv : Value) (A : Around) (outer : List Env) (s0 : Shared) (H : Hp) (E : XK), Room k (A.deeper (PyProof.Rows.envOfC qual (defScope st) s0.heap.objs.size f cdv)) → PSs (cxOf CX0 P w K mg base N qual (defScope st) f cdv A outer s0 H E).nox (defBody st) (tS K s)) :
    MCal P w K mg base (k + 1) C m ps.length Fn := ⟨f, fd, ps, c, mf, bf, fn_ok F S hN hF hb⟩
def hasM (C : Addr) (m : Str) : D → Bool
  | .obj C' kvs => decide (C' = C) && (fldD kvs m).isNone
  | _ => false
def eMeth (C : Addr) (m : Str) (n : Nat) (F : List D → Option RV) (gs : GX) : EX := fun env => (gs env).bind fun ds => match ds with
  | (d, b) :: r => if hasM C m d = true ∧ ((d, b) :: r).length = n then (F (((d, b) :: r).map (·.1))).bind fun x => if sepR ((d, b) :: r) x then some x else none else none
  | [] => none
@[simp] theorem eMeth_a {C : Addr} {m : Str} {n : Nat} {F : List D → Option RV} {gs : GX} {env : En} : eMeth C m n F gs env = (gs env).bind fun ds => match ds with
  | (d, b) :: r => if hasM C m d = true ∧ ((d, b) :: r).length = n then (F (((d, b) :: r).map (·.1))).bind fun x => if sepR ((d, b) :: r) x then some x else none else none
  | [] => none := rfl
section
variable {X : Cx} {k j n : Nat} {C : Addr} {m y : Str} {F : List D → Option RV} {p pos apos : Pos} {o e : Expr} {es : List Expr} {gs : GX} {x : EX} {i : Nat}
end
/-! ## a new object -/
def eNew (C : Addr) (n : Nat) (F : List D → Option D) (xs : AX) : EX := fun env => (xs env).bind fun ds => if ds.length + 1 = n then (F (.obj C [] :: ds)).map fun c => ⟨c, true⟩ else none
@[simp] theorem eNew_a {C : Addr} {n : Nat} {F : List D → Option D} {xs : AX} {env : En} : eNew C n F xs env = (xs env).bind fun ds => if ds.length + 1 = n then (F (.obj C [] :: ds)).map fun c => ⟨c, true⟩ else none := rfl
/-- a class and its __init__ -/
def NCal (P : Program) (w : World) (K : PySem.W.Frag) (mg : Str → Option Value) (base : Heap) (k : Nat) (C : Addr) (x : Str) (n : Nat) (F : List D → Option D) : Prop :=
  ∃ (f : Addr) (fd : FuncData) (ps : List Str), mg x = some (.ref C) ∧ Mk K C f ∧ Binds K fd ps [] ∧ FnOk P w K mg base CX0 k f fd ps (SpM K n F)
section
variable {X : Cx} {k j n : Nat} {C : Addr} {x : Str} {F : List D → Option D} {p pos : Pos} {e : Expr} {es : List Expr} {xs : AX}
end
end FW

set_option linter.all false
set_option Elab.async false
set_option maxRecDepth 100000
set_option maxHeartbeats 1000000
namespace FW
open PySem L2
/-! ## calls that change their first argument and tell something (which is given up) -/
abbrev OF := List D → Option (D × D)
def SpO (K : PySem.W.Frag) (n : Nat) (F : OF) : Sp := fun vs H Q _ => vs.length = n ∧ ∃ O p c ds vr c' r, vs = .ref p :: vr ∧ (∀ p ∈ O, H p ≠ none) ∧ p ∈ O ∧ Cont K (off H O) (H p) c ∧ DVs K (off H O) ds vr ∧ F (c :: ds) = some (c', r) ∧
  ∀ v H', (∀ b o, b ≠ p → H b = some o → H' b = some o) → Cont K (off H' O) (H' p) c' → DV K (off H' O) r v → Q v H'
def OCal (P : Program) (w : World) (K : PySem.W.Frag) (mg : Str → Option Value) (base : Heap) (k : Nat) (x : Str) (n : Nat) (F : OF) : Prop :=
  ∃ (f : Addr) (fd : FuncData) (ps : List Str), mg x = some (.ref f) ∧ PySem.W.keepIn K (.ref f) = true ∧ Binds K fd ps [] ∧ FnOk P w K mg base CX0 k f fd ps (SpO K n F)
def MOCal (P : Program) (w : World) (K : PySem.W.Frag) (mg : Str → Option Value) (base : Heap) (k : Nat) (C : Addr) (m : Str) (n : Nat) (F : OF) : Prop :=
  ∃ (f : Addr) (fd : FuncData) (ps : List Str), Cls K C ∧ Meth K C m f ∧ Binds K fd ps [] ∧ FnOk P w K mg base CX0 k f fd ps (SpO K n F)
def fnO (m : Nat) (s : SX) (n : Nat) (ds : List D) : Option (D × D) := match ds with
  | c :: ds => match s n (Sl.bo c :: (ds.map Sl.pu ++ List.replicate (m - (ds.length + 1)) Sl.un)) with
    | some (.nx e) => (boOf e).map fun c' => (c', .non)
    | some (.rt r e) => (boOf e).map fun c' => (c', r.d)
    | _ => none
  | [] => none
theorem fnO_ok {P : Program} {w : World} {K : PySem.W.Frag} {mg : Str → Option Value} {base : Heap} {x qual : Str} {st : Stmt} {f : Addr} {fd : FuncData} {N ps : List Str} {k : Nat} {s : SX} {Fn : OF}
    (F : Fun K x qual st f fd) (S : FnScope N ps (defScope st)) (hN : ps.length ≤ N.length) (hF : ∀ ds r, Fn ds = some r → ∃ n, fnO N.length s n ds = some r)
    (hb : ∀ (cdv : Value) (A : Around) (outer : List Env) (s0 : Shared) (H : Hp) (E : XK), Room k (A.deeper (PyProof.Rows.envOfC qual (defScope st) s0.heap.objs.size f cdv)) → PSs (cxOf CX0 P w K mg base N qual (defScope st) f cdv A outer s0 H E).nox (defBody st) (tS K s)) :
    FnOk P w K mg base CX0 (k + 1) f fd ps (SpO K ps.length Fn) := by
  refine F.ok S (fun vs H Q E h => h.1) (fun cdv A outer s0 H vs Q E hr h => ⟨_, hb cdv A outer s0 H E hr, ?_⟩)
  obtain ⟨hl, O, p, c, ds, vr, c', r, rfl, dom, hp, hc, dv, e, kq⟩ := h
  obtain ⟨n, e⟩ := hF _ _ e
  unfold fnO at e
  have R := start_okM (N := N) dv dom hp hc (by simp only [List.length_cons] at hl; omega)
  simp only at e
  split at e
  · rename_i e1 he
    cases q : boOf e1 with
    | none => rw [q] at e; cases e
    | some c2 =>
      rw [q] at e
      cases e
      unfold boOf at q
      split at q
      · rename_i c3 he0
        cases q
        refine ⟨some p, O, H, _, _, n, _, fun _ _ _ z => z, R, he, fun σ' H' ⟨O', R'⟩ => ?_⟩
        obtain ⟨q, g1, g2, g3, g4⟩ := R'.er.sl 0 _ he0
        cases g2
        exact kq _ H' (fun b o hb z => R'.same b o (fun w => hb (by cases w; rfl)) z) (g4.mono (off_sub R'.sub)) (by simp only [DV])
      · cases q
  · rename_i r' e1 he
    cases q : boOf e1 with
    | none => rw [q] at e; cases e
    | some c2 =>
      rw [q] at e
      cases e
      unfold boOf at q
      split at q
      · rename_i c3 he0
        cases q
        refine ⟨some p, O, H, _, _, n, _, fun _ _ _ z => z, R, he, fun v H' ok => ?_⟩
        exact kq v H' (fun b o hb z => ok.2.1 b o (fun w => hb (by cases w; rfl)) z) (ok.2.2.2 p 0 _ rfl he0) ok.1.1
      · cases q
  · cases e
theorem OCal.mk {P : Program} {w : World} {K : PySem.W.Frag} {mg : Str → Option Value} {base : Heap} {x qual : Str} {st : Stmt} {f : Addr} {fd : FuncData} {N ps : List Str} {k : Nat} {s : SX} {Fn : OF}
    (F : Fun K x qual st f fd) (mf : mg x = some (.ref f)) (bf : Binds K fd ps []) (S : FnScope N ps (defScope st)) (hN : ps.length ≤ N.length) (hF : ∀ ds r, Fn ds = some r → ∃ n, fnO N.length s n ds = some r)
    (hb : ∀ (cdv : Value) (A : Around) (outer : List Env) (s0 : Shared) (H : Hp) (E : XK), Room k (A.deeper (PyProof.Rows.envOfC qual (defScope st) s0.heap.objs.size f cdv)) → PSs (cxOf CX0 P w K mg base N qual (defScope st) f cdv A outer s0 H E).nox (defBody st) (tS K s)) :
    OCal P w K mg base (k + 1) x ps.length Fn := ⟨f, fd, ps, mf, F.kp, bf, fnO_ok F S hN hF hb⟩
theorem MOCal.mk {P : Program} {w : World} {K : PySem.W.Frag} {mg : Str → Option Value} {base : Heap} {x qual : Str} {st : Stmt} {f C : Addr} {m : Str} {fd : FuncData} {N ps : List Str} {k : Nat} {s : SX} {Fn : OF}
    (F : Fun K x qual st f fd) (c : Cls K C) (mf : Meth K C m f) (bf : Binds K fd ps []) (S : FnScope N ps (defScope st)) (hN : ps.length ≤ N.length) (hF : ∀ ds r, Fn ds = some r → ∃ n, fnO N.length s n ds = some r)
    (hb : ∀ (cdv : Value) (A : Around) (outer : List Env) (s0 : Shared) (H : Hp) (E : XK), Room k (A.deeper (PyProof.Rows.envOfC qual (defScope st) s0.heap.objs.size f cdv)) → PSs (cxOf CX0 P w K mg base N qual (defScope st) f cdv A outer s0 H E).nox (defBody st) (tS K s)) :
    MOCal P w K mg base (k + 1) C m ps.length Fn := ⟨f, fd, ps, c, mf, bf, fnO_ok F S hN hF hb⟩
theorem fnM_ok {P : Program} {w : World} {K : PySem.W.Frag} {mg : Str → Option Value} {base : Heap} {x qual : Str} {st : Stmt} {f : Addr} {fd : FuncData} {N ps : List Str} {k : Nat} {s : SX} {Fn : List D → Option D}
    (F : Fun K x qual st f fd) (S : FnScope N ps (defScope st)) (hN : ps.length ≤ N.length) (hF : ∀ ds r, Fn ds = some r → ∃ n, fnM N.length s n ds = some r)
    (hb : ∀ (cdv : Value) (A : Around) (outer : List Env) (s0 : Shared) (H : Hp) (E : XK), Room k (A.deeper (PyProof.Rows.envOfC qual (defScope st) s0.heap.objs.size f cdv)) → PSs (cxOf CX0 P w K mg base N qual (defScope st) f cdv A outer s0 H E).nox (defBody st) (tS K s)) :
    FnOk P w K mg base CX0 (k + 1) f fd ps (SpM K ps.length Fn) := by
  refine F.ok S (fun vs H Q E h => h.1) (fun cdv A outer s0 H vs Q E hr h => ⟨_, hb cdv A outer s0 H E hr, ?_⟩)
  obtain ⟨hl, O, p, c, ds, vr, c', rfl, dom, hp, hc, dv, e, kq⟩ := h
  obtain ⟨n, e⟩ := hF _ _ e
  unfold fnM at e
  have R := start_okM (N := N) dv dom hp hc (by simp only [List.length_cons] at hl; omega)
  simp only at e
  split at e
  · rename_i e1 he
    unfold boOf at e
    split at e
    · rename_i c2 he0
      cases e
      refine ⟨some p, O, H, _, _, n, _, fun _ _ _ z => z, R, he, fun σ' H' ⟨O', R'⟩ => ?_⟩
      obtain ⟨q, g1, g2, g3, g4⟩ := R'.er.sl 0 _ he0
      cases g2
      exact kq H' (fun b o hb z => R'.same b o (fun w => hb (by cases w; rfl)) z) (g4.mono (off_sub R'.sub))
    · cases e
  · rename_i e1 he
    unfold boOf at e
    split at e
    · rename_i c2 he0
      cases e
      refine ⟨some p, O, H, _, _, n, _, fun _ _ _ z => z, R, he, fun v H' ok => ?_⟩
      have hv := ok.1.1
      simp only [DV] at hv
      subst hv
      exact kq H' (fun b o hb z => ok.2.1 b o (fun w => hb (by cases w; rfl)) z) (ok.2.2.2 p 0 _ rfl he0)
    · cases e
  · cases e
/-- __init__ -/
theorem NCal.mk {P : Program} {w : World} {K : PySem.W.Frag} {mg : Str → Option Value} {base : Heap} {x y qual : Str} {st : Stmt} {f C : Addr} {fd : FuncData} {N ps : List Str} {k : Nat} {s : SX} {Fn : List D → Option D}
    (F : Fun K y qual st f fd) (mc : mg x = some (.ref C)) (mk : Mk K C f) (bf : Binds K fd ps []) (S : FnScope N ps (defScope st)) (hN : ps.length ≤ N.length) (hF : ∀ ds r, Fn ds = some r → ∃ n, fnM N.length s n ds = some r)
    (hb : ∀ (cdv : Value) (A : Around) (outer : List Env) (s0 : Shared) (H : Hp) (E : XK), Room k (A.deeper (PyProof.Rows.envOfC qual (defScope st) s0.heap.objs.size f cdv)) → PSs (cxOf CX0 P w K mg base N qual (defScope st) f cdv A outer s0 H E).nox (defBody st) (tS K s)) :
    NCal P w K mg base (k + 1) C x ps.length Fn := ⟨f, fd, ps, mc, mk, bf, fnM_ok F S hN hF hb⟩
/-! ### what is called, and what is there behind it -/
def callO (chk : D → Bool) (i n : Nat) (F : OF) (xs : AX) (env : En) : Option (D × D) := (ownD i env).bind fun c => (xs env).bind fun ds => if chk c = true ∧ ds.length + 1 = n then F (c :: ds) else none
def sSetO (chk : D → Bool) (i j n : Nat) (F : OF) (xs : AX) : SX := fun _ env => if i = j then none else (callO chk i n F xs env).map fun r => .nx ((setMu i r.1 env).set j (.pu r.2))
def sExprO (chk : D → Bool) (i n : Nat) (F : OF) (xs : AX) : SX := fun _ env => (callO chk i n F xs env).map fun r => .nx (setMu i r.1 env)
def yesD (_ : D) : Bool := true
@[simp] theorem sSetO_a {chk : D → Bool} {i j n N : Nat} {F : OF} {xs : AX} {env : En} : sSetO chk i j n F xs N env = if i = j then none else (callO chk i n F xs env).map fun r => .nx ((setMu i r.1 env).set j (.pu r.2)) := rfl
@[simp] theorem sExprO_a {chk : D → Bool} {i n N : Nat} {F : OF} {xs : AX} {env : En} : sExprO chk i n F xs N env = (callO chk i n F xs env).map fun r => .nx (setMu i r.1 env) := rfl
@[simp] theorem callO_a {chk : D → Bool} {i n : Nat} {F : OF} {xs : AX} {env : En} : callO chk i n F xs env = (ownD i env).bind fun c => (xs env).bind fun ds => if chk c = true ∧ ds.length + 1 = n then F (c :: ds) else none := rfl
section
variable {X : Cx} {k jj n : Nat} {C : Addr} {m y : Str} {F : OF} {p pos apos pos2 : Pos} {e : Expr} {es : List Expr} {xs : AX} {i : Nat}
/-- the expression o.m(..), its reading where o is owned -/
def tOm (K : PySem.W.Frag) (chk : D → Bool) (i n : Nat) (F : OF) (xs : AX) : TE := fun σ H Q => ∃ M B H0 G O env c' r, Up G ∧ SRo K M B H0 G O env σ H ∧ callO chk i n F xs env = some (c', r) ∧ ∀ v H', SRo K M B H0 G O (setMu i c' env) σ H' → DV K (off H' O) r v → Q v H'
end
end FW

set_option linter.all false
set_option Elab.async false
set_option maxRecDepth 100000
set_option maxHeartbeats 1000000
namespace FW
open PySem L2
/-! ## match .. case ["word", a, b]: .. case _: .. -/
abbrev MX := List D → SX
def mWild (s : SX) : MX := fun _ => s
def mCase (w : Str) (is : List Nat) (b : SX) (rest : MX) : MX := fun ds n env =>
  if ds.length = is.length + 1 then (match ds with
    | .str x :: r => if x = w then (setAll is r env).bind (b n) else rest ds n env
    | _ => none) else rest ds n env
def sMatch (i : Nat) (m : MX) : SX := fun n env => match env[i]? with
  | some (.pu (.tup ds)) => m ds n env
  | _ => none
@[simp] theorem mWild_a {s : SX} {ds : List D} {n : Nat} {env : En} : mWild s ds n env = s n env := rfl
@[simp] theorem mCase_a {w : Str} {is : List Nat} {b : SX} {rest : MX} {ds : List D} {n : Nat} {env : En} : mCase w is b rest ds n env = if ds.length = is.length + 1 then (match ds with
    | .str x :: r => if x = w then (setAll is r env).bind (b n) else rest ds n env
    | _ => none) else rest ds n env := rfl
@[simp] theorem sMatch_a {i n : Nat} {m : MX} {env : En} : sMatch i m n env = (match env[i]? with
  | some (.pu (.tup ds)) => m ds n env
  | _ => none) := rfl
def tM (K : PySem.W.Frag) (m : MX) (a : Addr) (DD : Ends) (σ : St) (H : Hp) : Prop := ∃ M B H0 G O env n out ds vs, Up G ∧ SRo K M B H0 G O env σ H ∧ SqT K H a vs ∧ DVs K (off H O) ds vs ∧ m ds n env = some out ∧ OutOk K M B H0 G DD out
def PM (X : Cx) (cs : List MatchCase) (m : MX) : Prop := ∀ (first : Bool) (pins : List (Addr × Obj)) (s : Shared) (σ : St) (H : Hp) (DD : Ends) (a : Addr), Inv X pins σ H s → tM X.K m a DD σ H →
  wpAny (model X.prog X.w) X.A (matchCases cs X.env (.ref a) first) (SP X pins DD) X.xe s
/-- names that take what is there -/
def PCap (X : Cx) (ps : List Pattern) (is : List Nat) : Prop := ∃ xs : List Str, xs.length = ps.length ∧ is.length = ps.length ∧
  (∀ (us : List Value) (Q : Option (List (Str × Value)) → Shared → Prop) (s : Shared), us.length = ps.length → Q (some (xs.zip us)) s → wpAny (model X.prog X.w) X.A (matchEach ps X.env us) Q X.xe s) ∧
  (∀ (pins : List (Addr × Obj)) (s : Shared) (σ : St) (H : Hp) (us : List Value) (vs : List V) (Q : St → Hp → Prop), Inv X pins σ H s → Vals vs us → us.length = ps.length → gsAll is vs σ H Q →
    wpAny (model X.prog X.w) X.A (assignInOrder ((xs.zip us).map fun (n, _) => bindName X.env n) ((xs.zip us).map (·.2))) (fun _ s' => ∃ σ' H', Inv X pins σ' H' s' ∧ Q σ' H') X.xe s)
section
variable {X : Cx} {pos : Pos}
theorem SRo.sets {K : PySem.W.Frag} {M : Option Addr} {B O : List Addr} {H0 H : Hp} {G : Hp → Prop} {env env' : En} {σ : St} {is : List Nat} {ds : List D} {vs : List V} (u : Up G) (R : SRo K M B H0 G O env σ H) (dv : DVs K (off H O) ds vs) (e : setAll is ds env = some env') {Q : St → Hp → Prop} (k : ∀ σ' H', SR K M B H0 G env' σ' H' → Q σ' H') : gsAll is vs σ H Q := tg_all u R dv e k
end
end FW

set_option linter.all false
set_option Elab.async false
set_option maxRecDepth 100000
set_option maxHeartbeats 1000000
namespace FW
open PySem L2
/-! ## methods that raise -/
theorem fnX_ok {P : Program} {w : World} {K : PySem.W.Frag} {mg : Str → Option Value} {base : Heap} {x qual : Str} {st : Stmt} {f : Addr} {fd : FuncData} {N ps : List Str} {k : Nat} {sx : XX} {Fn : List D → Option Str}
    (F : Fun K x qual st f fd) (S : FnScope N ps (defScope st)) (hN : ps.length ≤ N.length) (hF : ∀ ds c, Fn ds = some c → ∃ n, fnX N.length sx n ds = some c)
    (hb : ∀ (cdv : Value) (A : Around) (outer : List Env) (s0 : Shared) (H : Hp) (E : XK), Room k (A.deeper (PyProof.Rows.envOfC qual (defScope st) s0.heap.objs.size f cdv)) →
      Lands (cxOf (CXR P w) P w K mg base N qual (defScope st) f cdv A outer s0 H E) (fun c _ H' => ∀ C, mg c = some C → E C none H') →
      LandsN (cxOf (CXR P w) P w K mg base N qual (defScope st) f cdv A outer s0 H E) (fun c _ H' => ∀ C, mg c = some C → E C none H') →
      PSs (cxOf (CXR P w) P w K mg base N qual (defScope st) f cdv A outer s0 H E) (defBody st) (tX K (fun c _ H' => ∀ C, mg c = some C → E C none H') sx)) :
    FnOk P w K mg base (CXR P w) (k + 1) f fd ps (SpX K mg ps.length Fn) := by
  obtain ⟨oc, od, kV, doc, pm, an, cdv, ct, osl, rfl, lk, hcd⟩ := F.ex
  refine fn_of lk hcd S (fun vs H Q E h => h.1) fun A outer s H vs Q E hr hsp => ⟨_, hb cdv A outer s H E hr lands_fn landsN_fn, ?_⟩
  obtain ⟨hl, ds, c, dv, e, kq⟩ := hsp
  obtain ⟨n, e⟩ := hF ds c e
  unfold fnX at e
  have e0 : off H [] = H := by funext b; simp [off]
  have R := start_ok (N := N) (O := []) (K := K) (H := H) (by rw [e0]; exact dv) (fun p hp => absurd hp (by simp)) (by rw [hl]; exact hN)
  cases q : sx n (ds.map Sl.pu ++ List.replicate (N.length - ds.length) Sl.un) with
  | none => rw [q] at e; cases e
  | some r =>
    obtain ⟨c', env'⟩ := r
    rw [q] at e
    cases e
    exact ⟨none, [], H, _, _, n, _, env', fun _ _ _ z => z, R, q, fun σ' H' ⟨O', R'⟩ C mc => kq C H' mc (fun b o z => R'.same b o (by intro q; cases q) z)⟩
def MCalX (P : Program) (w : World) (K : PySem.W.Frag) (mg : Str → Option Value) (base : Heap) (k : Nat) (C : Addr) (m : Str) (n : Nat) (XF : List D → Option Str) : Prop :=
  ∃ (f : Addr) (fd : FuncData) (ps : List Str), Cls K C ∧ Meth K C m f ∧ Binds K fd ps [] ∧ FnOk P w K mg base (CXR P w) k f fd ps (SpX K mg n XF)
def NCalX (P : Program) (w : World) (K : PySem.W.Frag) (mg : Str → Option Value) (base : Heap) (k : Nat) (C : Addr) (x : Str) (n : Nat) (XF : List D → Option Str) : Prop :=
  ∃ (f : Addr) (fd : FuncData) (ps : List Str), mg x = some (.ref C) ∧ Mk K C f ∧ Binds K fd ps [] ∧ FnOk P w K mg base (CXR P w) k f fd ps (SpX K mg n XF)
/-- o.m(..) that raises -/
def cXm (C : Addr) (m : Str) (XF : List D → Option Str) (n : Nat) (xo : BX) (xs : AX) : En → Option Str := fun env => (xo env).bind fun d => (xs env).bind fun ds => if hasM C m d = true ∧ ds.length + 1 = n then XF (d :: ds) else none
/-- C(..) that raises -/
def cXn (C : Addr) (XF : List D → Option Str) (n : Nat) (xs : AX) : En → Option Str := fun env => (xs env).bind fun ds => if ds.length + 1 = n then XF (.obj C [] :: ds) else none
section
variable {X : Cx} {W : Str → St → Hp → Prop} {k j n : Nat} {C : Addr} {m x : Str} {XF : List D → Option Str} {p pos apos : Pos} {o e : Expr} {es : List Expr} {xo : BX} {xs : AX}
/-- o.m(e, ..) where e raises; o a name -/
def xMA (C : Addr) (m : Str) (i : Nat) (xe : En → Option Str) : En → Option Str := fun env => (bVar i env).bind fun d => if hasM C m d = true then xe env else none
end
end FW

set_option linter.all false
set_option Elab.async false
set_option maxRecDepth 100000
set_option maxHeartbeats 1000000
namespace L2
open PySem PySem.Spec PyProof.Rows
def tDc (wi : TI) (g : TG) (tt : TT) (tk tv : TE) (vs : List Nat) : TE := fun σ H Q => wi σ H fun J H1 => ∀ D, H1 D = none → ∃ W : Nat → Nat → Hp → Prop, (∃ m, W 0 m (upd H1 D (.dK []))) ∧ ∀ i m H, W i m H →
  (J.stop i H ∧ Q (.ref D) H) ∨ (J.go i H ∧ ∃ Nx : Hp → Prop, (∀ H', Nx H' → ∃ m', m' < m ∧ W (i + 1) m' H') ∧ ∀ x H', J.yld i H x H' → g x (wipe σ vs) H' fun σ2 H2 => wipe σ2 vs = wipe σ vs ∧ tt σ2 H2 fun b H3 =>
    if b = true then tk σ2 H3 fun kx H4 => tv σ2 H4 fun y H5 => ∃ ky acc, kx = kV ky ∧ H5 D = some (.dK acc) ∧ acc.length < sizeLine ∧ Nx (upd H5 D (.dK (putK acc ky y))) else Nx H3)
section
variable {X : Cx}
end
end L2
namespace FW
open PySem L2
/-! ## dict comprehensions -/
def dcGo (gd : D → En → Option En) (tt tk : BX) (te : EX) (env : En) : List D → List (Key × D) → Option (List (Key × D))
  | [], acc => some acc
  | d :: ds, acc => (gd d env).bind fun e1 => (tt e1).bind fun t => match t with
    | .bl true => (tk e1).bind fun kd => (keyD kd).bind fun ky => (te e1).bind fun r => dcGo gd tt tk te env ds (putD acc ky r.d)
    | .bl false => dcGo gd tt tk te env ds acc
    | _ => none
def dcD (gd : D → En → Option En) (tt tk : BX) (te : EX) (vs : List Nat) (env : En) (ds : List D) : Option RV := if ds.length ≤ lim then (dcGo gd tt tk te (wipeE env vs) ds []).map fun out => ⟨.dic out, true⟩ else none
def eDc (src : AX) (gd : D → En → Option En) (tt tk : BX) (te : EX) (vs : List Nat) : EX := fun env => (src env).bind fun ds => dcD gd tt tk te vs env ds
def eDcV (i : Nat) (gd : D → En → Option En) (tt tk : BX) (te : EX) (vs : List Nat) : EX := fun env => match env[i]? with
  | some (.pu d) => (itemsD d).bind fun ds => dcD gd tt tk te vs env ds
  | _ => none
@[simp] theorem eDc_a {src : AX} {gd : D → En → Option En} {tt tk : BX} {te : EX} {vs : List Nat} {env : En} : eDc src gd tt tk te vs env = (src env).bind fun ds => dcD gd tt tk te vs env ds := rfl
@[simp] theorem eDcV_a {i : Nat} {gd : D → En → Option En} {tt tk : BX} {te : EX} {vs : List Nat} {env : En} : eDcV i gd tt tk te vs env = (match env[i]? with
  | some (.pu d) => (itemsD d).bind fun ds => dcD gd tt tk te vs env ds
  | _ => none) := rfl
section
variable {K : PySem.W.Frag} {M : Option Addr} {O : List Addr} {env : En} {σ : St} {H : Hp}
end
section
variable {X : Cx}
end
end FW

set_option linter.all false
set_option Elab.async false
set_option maxRecDepth 100000
set_option maxHeartbeats 1000000
namespace FW
open PySem L2
section
variable {X : Cx} {pos : Pos}
/-! ## a <= b <= c, ints -/
def bLeLe (x y z : BX) : BX := fun env => (x env).bind fun a => (y env).bind fun b => match a, b with
  | .int i, .int j => if i ≤ j then (z env).bind fun c => match c with
    | .int k => some (.bl (decide (j ≤ k)))
    | _ => none else some (.bl false)
  | _, _ => none
@[simp] theorem bLeLe_a {x y z : BX} {env : En} : bLeLe x y z env = (x env).bind fun a => (y env).bind fun b => match a, b with
  | .int i, .int j => if i ≤ j then (z env).bind fun c => match c with
    | .int k => some (.bl (decide (j ≤ k)))
    | _ => none else some (.bl false)
  | _, _ => none := rfl
def tLL (K : PySem.W.Frag) (x y z : BX) : TE := tChain (rI0 fun i j => .bl (decide (i ≤ j))) (rI0 fun i j => .bl (decide (i ≤ j))) (tB K x) (tB K y) (tB K z)
theorem lele {x y z : BX} {σ : St} {H : Hp} {Q : VK} (h : ∃ M O env d, ER X.K M O env σ H ∧ bLeLe x y z env = some (.bl d) ∧ ∀ H', Same H H' → Q (.bl d) H') : tLL X.K x y z σ H Q := by
  obtain ⟨M, O, env, d, er, e, k⟩ := h
  unfold bLeLe at e
  cases q1 : x env with
  | none => rw [q1] at e; cases e
  | some a =>
    cases q2 : y env with
    | none => rw [q1, q2] at e; cases e
    | some b =>
      rw [q1, q2] at e
      simp only [Option.bind_some] at e
      split at e
      rotate_left
      · cases e
      rename_i i j
      refine ⟨M, O, env, _, er, q1, fun v H1 s1 b1 => ⟨M, O, env, _, er.mono s1, q2, fun w H2 s2 b2 => ?_⟩⟩
      rw [b1.int, b2.int]
      by_cases hij : i ≤ j
      · rw [if_pos hij] at e
        cases q3 : z env with
        | none => rw [q3] at e; cases e
        | some c =>
          rw [q3] at e
          simp only [Option.bind_some] at e
          split at e
          · rename_i l
            cases e
            refine ⟨i, j, rfl, rfl, true, by simp [hij], iteT ⟨M, O, env, _, (er.mono s1).mono s2, q3, fun u H3 s3 b3 => ?_⟩⟩
            rw [b3.int]
            exact ⟨j, l, rfl, rfl, k H3 ((s1.trans s2).trans s3)⟩
          · cases e
      · rw [if_neg hij] at e
        cases e
        exact ⟨i, j, rfl, rfl, false, by simp [hij], iteF (k H2 (s1.trans s2))⟩
theorem ct_lele {a b c : Expr} {x y z : BX} (ha : PE X a (tB X.K x)) (hb : PE X b (tB X.K y)) (hc : PE X c (tB X.K z)) (hm : lastMarks [.LtE, .LtE] [b, c] = false := by with_unfolding_all rfl) : PT X (.Compare a [.LtE, .LtE] [b, c] pos) (tT X.K (bLeLe x y z)) :=
  (pt_chain op_le op_le ha hb hc hm).imp fun σ H Q ⟨M, O, env, d, er, e, k⟩ => lele ⟨M, O, env, d, er, e, fun H' s => ⟨d, rfl, k H' s⟩⟩
/-! ## {a: b, c: d} -/
def eDisp2 (a : BX) (b : EX) (c : BX) (d : EX) : EX := fun env => (a env).bind fun kd => (keyD kd).bind fun k => (b env).bind fun r => (c env).bind fun kd2 => (keyD kd2).bind fun k2 => (d env).map fun r2 => ⟨.dic (putD [(k, r.d)] k2 r2.d), true⟩
@[simp] theorem eDisp2_a {a : BX} {b : EX} {c : BX} {d : EX} {env : En} : eDisp2 a b c d env = (a env).bind fun kd => (keyD kd).bind fun k => (b env).bind fun r => (c env).bind fun kd2 => (keyD kd2).bind fun k2 => (d env).map fun r2 => ⟨.dic (putD [(k, r.d)] k2 r2.d), true⟩ := rfl
/-! ## xs[i] = e, a list of one's own -/
def sLput (i : Nat) (k : BX) (x : EX) : SX := fun _ env => (ownD i env).bind fun c => match c with
  | .lst ds => (x env).bind fun r => (k env).bind fun kd => match kd with
    | .int n => (ixN ds.length n).map fun j => .nx (setMu i (.lst (ds.set j r.d)) env)
    | _ => none
  | _ => none
@[simp] theorem sLput_a {i n' : Nat} {k : BX} {x : EX} {env : En} : sLput i k x n' env = (ownD i env).bind fun c => match c with
  | .lst ds => (x env).bind fun r => (k env).bind fun kd => match kd with
    | .int n => (ixN ds.length n).map fun j => .nx (setMu i (.lst (ds.set j r.d)) env)
    | _ => none
  | _ => none := rfl
theorem DVs.set {K : PySem.W.Frag} {H : Hp} {d : D} {v : V} (h : DV K H d v) : ∀ {ds : List D} {vs : List V} (j : Nat), DVs K H ds vs → DVs K H (ds.set j d) (vs.set j v)
  | [], vs, j, e => by simp only [DVs] at e; subst e; simp [DVs]
  | a :: ds, vs, 0, e => by
    simp only [DVs] at e
    obtain ⟨w, r, rfl, e1, e2⟩ := e
    simp only [List.set_cons_zero, DVs]
    exact ⟨v, r, rfl, h, e2⟩
  | a :: ds, vs, j + 1, e => by
    simp only [DVs] at e
    obtain ⟨w, r, rfl, e1, e2⟩ := e
    simp only [List.set_cons_succ, DVs]
    exact ⟨w, _, rfl, e1, DVs.set h j e2⟩
/-! ## tuple(list), t + u -/
def fTupL : List D → Option D
  | [.lst ds] => some (.tup ds)
  | [.tup ds] => some (.tup ds)
  | _ => none
def eTupL (x : BX) : EX := fun env => (x env).bind fun d => (fTupL [d]).map fun r => ⟨r, false⟩
@[simp] theorem eTupL_a {x : BX} {env : En} : eTupL x env = (x env).bind fun d => (fTupL [d]).map fun r => ⟨r, false⟩ := rfl
theorem boot_tuple : bootBuiltins "tuple" = some (.type "tuple") := by first | rfl | decide +kernel
theorem ce_tupL {e : Expr} {p : Pos} {x : BX} (hg : Gl X "tuple") (hm : X.mg "tuple" = none) (ha : PE X e (tB X.K x)) (he : starEach [e] X.env = (false, eval e X.env) :: starEach [] X.env := by rfl) : PE X (.Call (.Name "tuple" p) [e] [] pos) (tE X.K (eTupL x)) :=
  (pe_callTy call_tuple_of hg hm boot_tuple (pa_cons ha pa_nil he) (he := he)).imp fun σ H Q ⟨M, O, env, r, er, e, k⟩ => by
    unfold eTupL at e
    cases q : x env with
    | none => rw [q] at e; cases e
    | some d =>
      rw [q] at e
      simp only [Option.bind_some] at e
      unfold fTupL at e
      split at e
      · rename_i ds q'
        cases q'
        cases e
        refine ⟨M, O, env, _, er, q, fun v H1 s1 b => ?_⟩
        obtain ⟨p, vs, rfl, h1, h2⟩ := b.lst
        refine ⟨p, vs, rfl, .inl ⟨h1, fun l hl => k _ _ (s1.trans (same_upd hl)) ⟨?_, fun z => by cases z⟩⟩⟩
        have np : l ∉ O := fun z => (er.mono s1).dom l z hl
        simp only [DV]
        exact ⟨l, vs, rfl, .of (off_some.mpr ⟨np, upd_same⟩), h2.mono (off_mono (same_upd hl))⟩
      · rename_i ds q'
        cases q'
        cases e
        refine ⟨M, O, env, _, er, q, fun v H1 s1 b => ?_⟩
        have b0 : DV X.K (off H1 O) (.tup ds) v := by
          rcases b with b | ⟨p, b1, b2, b3⟩
          · exact b
          · exact b3.elim
        obtain ⟨p, vs, rfl, h1, h2⟩ := b.tup
        exact ⟨p, vs, rfl, .inr ⟨h1, k _ _ s1 ⟨b0, fun z => by cases z⟩⟩⟩
      · cases e
def eCatT (x y : EX) : EX := fun env => (x env).bind fun a => (y env).bind fun b => match a.d, b.d with
  | .tup ds, .tup es => if ds.length + es.length ≤ lim ∧ ds ≠ [] then some ⟨.tup (ds ++ es), false⟩ else none
  | _, _ => none
theorem ce_catT {a b : Expr} {x y : EX} (ha : PE X a (tE X.K x)) (hb : PE X b (tE X.K y)) : PE X (.BinOp a .Add b pos) (tE X.K (eCatT x y)) := (pe_op op_catT ha hb).imp fun σ H Q ⟨M, O, env, r, er, e, k⟩ => by
  unfold eCatT at e
  cases q1 : x env with
  | none => rw [q1] at e; cases e
  | some d1 =>
    cases q2 : y env with
    | none => rw [q1, q2] at e; cases e
    | some d2 =>
      rw [q1, q2] at e
      simp only [Option.bind_some] at e
      split at e
      rotate_left
      · cases e
      rename_i ds es g1 g2
      split at e
      rotate_left
      · cases e
      rename_i hl
      cases e
      refine ⟨M, O, env, _, er, q1, fun v H1 s1 r1 => ⟨M, O, env, _, er.mono s1, q2, fun w H2 s2 r2 => ?_⟩⟩
      have b1 : DV X.K (off H2 O) (.tup ds) v := by rw [← g1]; exact r1.1.mono (off_mono s2)
      have b2 : DV X.K (off H2 O) (.tup es) w := by rw [← g2]; exact r2.1
      have b1' := b1
      simp only [DV] at b1 b2
      obtain ⟨p, vs, rfl, h1, h2⟩ := b1
      obtain ⟨p', vs', rfl, h1', h2'⟩ := b2
      have hne : vs ≠ [] := fun z => by
        have := h2.length
        rw [z] at this
        exact hl.2 (List.length_eq_zero_iff.mp this.symm)
      refine ⟨p, p', vs, vs', rfl, rfl, sqT_mono off_same h1, sqT_mono off_same h1', hne, by rw [h2.length, h2'.length]; exact lim_ok hl.1, fun hz => ?_, fun hz p2 hp => k _ _ ((s1.trans s2).trans (same_upd hp)) ⟨?_, fun z => by cases z⟩⟩
      · have : es = [] := by
          have := h2'.length
          rw [hz] at this
          exact List.length_eq_zero_iff.mp this.symm
        subst this
        rw [List.append_nil] at k
        exact k _ _ (s1.trans s2) ⟨b1', fun z => by cases z⟩
      · simp only [DV]
        have np : p2 ∉ O := fun z => ((er.mono s1).mono s2).dom p2 z hp
        exact ⟨p2, vs ++ vs', rfl, .of (off_some.mpr ⟨np, upd_same⟩), (h2.append h2').mono (off_mono (same_upd hp))⟩
@[simp] theorem eCatT_a {x y : EX} {env : En} : eCatT x y env = (x env).bind fun a => (y env).bind fun b => match a.d, b.d with
  | .tup ds, .tup es => if ds.length + es.length ≤ lim ∧ ds ≠ [] then some ⟨.tup (ds ++ es), false⟩ else none
  | _, _ => none := rfl
@[simp] theorem sFldAugS_a {C : Addr} {g : Int → Int → Int} {i n : Nat} {f : Str} {x : BX} {env : En} : sFldAugS C g i f x n env = (ownD i env).bind fun c => (x env).bind fun d => match c, d with
  | .obj C' kvs, .int b => if C' = C ∧ kvs.length < 100 then (match fldD kvs f with
    | some (.int a) => some (.nx (setMu i (.obj C (putA f (.int (g a b)) kvs)) env))
    | _ => none) else none
  | _, _ => none := rfl
/-! ## rows.append(o.m(..)) -/
def sAppO (l : Nat) (chk : D → Bool) (i n : Nat) (F : OF) (xs : AX) : SX := fun _ env => if i = l then none else (ownD l env).bind fun c => match c with
  | .lst ds => (callO chk i n F xs env).bind fun r => if ds.length < lim then some (.nx (setMu l (.lst (ds ++ [r.2])) (setMu i r.1 env))) else none
  | _ => none
@[simp] theorem sAppO_a {l i n N : Nat} {chk : D → Bool} {F : OF} {xs : AX} {env : En} : sAppO l chk i n F xs N env = if i = l then none else (ownD l env).bind fun c => match c with
  | .lst ds => (callO chk i n F xs env).bind fun r => if ds.length < lim then some (.nx (setMu l (.lst (ds ++ [r.2])) (setMu i r.1 env))) else none
  | _ => none := rfl
end
end FW

set_option linter.all false
set_option Elab.async false
set_option maxRecDepth 100000
set_option maxHeartbeats 1000000
namespace FW
open PySem L2
abbrev MXX := List D → XX
def xmWild (s : XX) : MXX := fun _ => s
def xmCase (w : Str) (is : List Nat) (b : XX) (rest : MXX) : MXX := fun ds n env =>
  if ds.length = is.length + 1 then (match ds with
    | .str x :: r => if x = w then (setAll is r env).bind (b n) else rest ds n env
    | _ => none) else rest ds n env
def xMatch (i : Nat) (m : MXX) : XX := fun n env => match env[i]? with
  | some (.pu (.tup ds)) => m ds n env
  | _ => none
@[simp] theorem xmWild_a {s : XX} {ds : List D} {n : Nat} {env : En} : xmWild s ds n env = s n env := rfl
@[simp] theorem xmCase_a {w : Str} {is : List Nat} {b : XX} {rest : MXX} {ds : List D} {n : Nat} {env : En} : xmCase w is b rest ds n env = if ds.length = is.length + 1 then (match ds with
    | .str x :: r => if x = w then (setAll is r env).bind (b n) else rest ds n env
    | _ => none) else rest ds n env := rfl
@[simp] theorem xMatch_a {i n : Nat} {m : MXX} {env : En} : xMatch i m n env = (match env[i]? with
  | some (.pu (.tup ds)) => m ds n env
  | _ => none) := rfl
def tMX (K : PySem.W.Frag) (W : Str → St → Hp → Prop) (m : MXX) (a : Addr) (σ : St) (H : Hp) : Prop := ∃ M B H0 G O env n c env' ds vs, Up G ∧ SRo K M B H0 G O env σ H ∧ SqT K H a vs ∧ DVs K (off H O) ds vs ∧ m ds n env = some (c, env') ∧ ∀ σ' H', SR K M B H0 G env' σ' H' → W c σ' H'
def PMX (X : Cx) (W : Str → St → Hp → Prop) (cs : List MatchCase) (m : MXX) : Prop := ∀ (first : Bool) (pins : List (Addr × Obj)) (s : Shared) (σ : St) (H : Hp) (DD : Ends) (a : Addr), Inv X pins σ H s → tMX X.K W m a σ H →
  wpAny (model X.prog X.w) X.A (matchCases cs X.env (.ref a) first) (SP X pins DD) X.xe s
section
variable {X : Cx} {pos : Pos} {W : Str → St → Hp → Prop}
/-! ## for x in xs: if t: raise .. -/
def xGo (j : Nat) (t : BX) (x : XX) : List D → XX
  | [], _, _ => none
  | d :: ds, n, env => (t (env.set j (.pu d))).bind fun b => match b with
    | .bl true => x n (env.set j (.pu d))
    | .bl false => xGo j t x ds n (env.set j (.pu d))
    | _ => none
def xForL (i j : Nat) (t : BX) (x : XX) : XX := fun n env => match env[i]? with
  | some (.pu (.lst ds)) => xGo j t x ds n env
  | _ => none
end
theorem MCalX.mk {P : Program} {w : World} {K : PySem.W.Frag} {mg : Str → Option Value} {base : Heap} {x qual : Str} {st : Stmt} {f C : Addr} {m : Str} {fd : FuncData} {N ps : List Str} {k : Nat} {sx : XX} {Fn : List D → Option Str}
    (F : Fun K x qual st f fd) (c : Cls K C) (mf : Meth K C m f) (bf : Binds K fd ps []) (S : FnScope N ps (defScope st)) (hN : ps.length ≤ N.length) (hF : ∀ ds c, Fn ds = some c → ∃ n, fnX N.length sx n ds = some c)
    (hb : ∀ (cdv : Value) (A : Around) (outer : List Env) (s0 : Shared) (H : Hp) (E : XK), Room k (A.deeper (PyProof.Rows.envOfC qual (defScope st) s0.heap.objs.size f cdv)) →
      Lands (cxOf (CXR P w) P w K mg base N qual (defScope st) f cdv A outer s0 H E) (fun c _ H' => ∀ C, mg c = some C → E C none H') →
      LandsN (cxOf (CXR P w) P w K mg base N qual (defScope st) f cdv A outer s0 H E) (fun c _ H' => ∀ C, mg c = some C → E C none H') →
      PSs (cxOf (CXR P w) P w K mg base N qual (defScope st) f cdv A outer s0 H E) (defBody st) (tX K (fun c _ H' => ∀ C, mg c = some C → E C none H') sx)) :
    MCalX P w K mg base (k + 1) C m ps.length Fn := ⟨f, fd, ps, c, mf, bf, fnX_ok F S hN hF hb⟩
theorem NCalX.mk {P : Program} {w : World} {K : PySem.W.Frag} {mg : Str → Option Value} {base : Heap} {x y qual : Str} {st : Stmt} {f C : Addr} {fd : FuncData} {N ps : List Str} {k : Nat} {sx : XX} {Fn : List D → Option Str}
    (F : Fun K y qual st f fd) (mc : mg x = some (.ref C)) (mk : Mk K C f) (bf : Binds K fd ps []) (S : FnScope N ps (defScope st)) (hN : ps.length ≤ N.length) (hF : ∀ ds c, Fn ds = some c → ∃ n, fnX N.length sx n ds = some c)
    (hb : ∀ (cdv : Value) (A : Around) (outer : List Env) (s0 : Shared) (H : Hp) (E : XK), Room k (A.deeper (PyProof.Rows.envOfC qual (defScope st) s0.heap.objs.size f cdv)) →
      Lands (cxOf (CXR P w) P w K mg base N qual (defScope st) f cdv A outer s0 H E) (fun c _ H' => ∀ C, mg c = some C → E C none H') →
      LandsN (cxOf (CXR P w) P w K mg base N qual (defScope st) f cdv A outer s0 H E) (fun c _ H' => ∀ C, mg c = some C → E C none H') →
      PSs (cxOf (CXR P w) P w K mg base N qual (defScope st) f cdv A outer s0 H E) (defBody st) (tX K (fun c _ H' => ∀ C, mg c = some C → E C none H') sx)) :
    NCalX P w K mg base (k + 1) C x ps.length Fn := ⟨f, fd, ps, mc, mk, bf, fnX_ok F S hN hF hb⟩
end FW

set_option linter.all false
set_option Elab.async false
set_option maxRecDepth 100000
set_option maxHeartbeats 1000000
noncomputable section
namespace FW
open PySem L2
/-! ## x in a list, whatever the items are -/
open Classical in
def eqR (h : Heap) (dx : PyData) (u : Value) : Bool := if q : ∃ d, (∃ as, Reads h u d as) ∧ d.canLay0 = true then PyData.eqv (Classical.choose q) dx else false
section
variable {X : Cx} {pos : Pos}
def rInP (K : PySem.W.Frag) (neg : Bool) : R2 := fun x y H Q => ∃ p xs d ds, y = .ref p ∧ SqL K H p xs ∧ Dp K H x d ∧ DpAll K H xs ds ∧ SeqAt.shaped d = true ∧ ds.all SeqAt.shaped = true ∧ Q (.bl (if neg then !(ds.any fun e => PyData.eqv e d) else ds.any fun e => PyData.eqv e d)) H
def inP (d c : D) : Option Bool := match c with
  | .lst ds => if okP d && ds.all okP then some ((toPs ds).any fun e => PyData.eqv e (toP d)) else none
  | _ => none
def fInP (d c : D) : Option D := (inP d c).map .bl
def fNotInP (d c : D) : Option D := (inP d c).map fun b => .bl !b
end
end FW
end

set_option linter.all false
set_option Elab.async false
set_option maxRecDepth 100000
set_option maxHeartbeats 1000000
noncomputable section
namespace FW
open PySem L2
/-! ## for .. in a list of one's own, which stays one's own and as it is -/
def okO (i : Nat) (ds : List D) (e : En) : Prop := e[i]? = some (.bo (.lst ds)) ∧ ∀ (j : Nat) d, e[j]? = some (.bo d) → j = i
open Classical in
def loopO (i : Nat) (gd : D → En → Option En) (b : SX) (n : Nat) (all : List D) : List D → En → Option Out
  | [], env => some (.nx env)
  | d :: ds, env => (gd d env).bind fun e1 => (b n e1).bind fun o => match o with
    | .nx e => if okO i all e then loopO i gd b n all ds e else none
    | .ct e => if okO i all e then loopO i gd b n all ds e else none
    | .bk e => if okO i all e then some (.nx e) else none
    | .rt r e => if okO i all e then some (.rt r e) else none
def unbo (i : Nat) (ds : List D) : Out → Out
  | .nx e => .nx (e.set i (.mu (.lst ds)))
  | .rt r e => .rt r (e.set i (.mu (.lst ds)))
  | .bk e => .bk (e.set i (.mu (.lst ds)))
  | .ct e => .ct (e.set i (.mu (.lst ds)))
open Classical in
def sForO (i : Nat) (gd : D → En → Option En) (b : SX) : SX := fun n env => match env[i]? with
  | some (.mu (.lst ds)) => if (∀ (j : Nat) d, env[j]? ≠ some (.bo d)) then (loopO i gd b n ds ds (env.set i (.bo (.lst ds)))).map (unbo i ds) else none
  | _ => none
section
variable {K : PySem.W.Frag} {M : Option Addr} {B O : List Addr} {H0 H : Hp} {G : Hp → Prop} {env : En} {σ : St} {i : Nat} {ds : List D} {p : Addr}
open Classical in
def H0o (p : Addr) (B : List Addr) (H0 H : Hp) : Hp := fun b => if b = p ∨ b ∈ B then H b else H0 b
theorem H0o_p : H0o p B H0 H p = H p := by unfold H0o; simp
theorem H0o_B {b : Addr} (h : b ∈ B) : H0o p B H0 H b = H b := by unfold H0o; simp [h]
theorem H0o_ne {b : Addr} (h1 : b ≠ p) (h2 : b ∉ B) : H0o p B H0 H b = H0 b := by unfold H0o; simp [h1, h2]
/-- into the loop -/
theorem SRo.into (R : SRo K M B H0 G O env σ H) (hi : env[i]? = some (.mu (.lst ds))) (nb : ∀ (j : Nat) d, env[j]? ≠ some (.bo d)) (hp : σ[i]? = some (some (.ref p))) : SRo K (some p) (p :: B) (H0o p B H0 H) G O (env.set i (.bo (.lst ds))) σ H := by
  obtain ⟨p', h1, h2, h3⟩ := R.er.sl i _ hi
  rw [hp] at h1
  cases h1
  have hil : i < env.length := (List.getElem?_eq_some_iff.mp hi).1
  have get : ∀ {j : Nat} {s : Sl}, (env.set i (.bo (.lst ds)))[j]? = some s → (i = j ∧ s = .bo (.lst ds)) ∨ (i ≠ j ∧ env[j]? = some s) := fun {j s} hj => by
    by_cases e : i = j
    · subst e; rw [List.getElem?_set_self hil] at hj; cases hj; exact .inl ⟨rfl, rfl⟩
    · rw [List.getElem?_set_ne e] at hj; exact .inr ⟨e, hj⟩
  have h0 := R.wr i _ p hi hp
  refine ⟨⟨fun j s hj => ?_, fun j k s t q hj hk os ot pj pk => ?_, R.er.dom⟩, fun q hq => ?_, fun q hq => ?_, fun q hq => ?_, fun b o hb ho => ?_, R.gh, fun j d q hj pj => ?_, fun q hq => ?_, by rw [List.length_set]; exact R.len⟩
  · rcases get hj with ⟨rfl, rfl⟩ | ⟨e, h⟩
    · exact ⟨p, hp, rfl, h2, h3⟩
    · have z := R.er.sl j s h
      cases s with
      | un => trivial
      | pu d => exact z
      | mu d => exact z
      | bo d => exact absurd h (nb j d)
  · rcases get hj with ⟨rfl, rfl⟩ | ⟨e, h⟩
    · rcases get hk with ⟨rfl, rfl⟩ | ⟨e', h'⟩
      · rfl
      · exact R.er.ow _ k _ t q hi h' rfl ot pj pk
    · rcases get hk with ⟨rfl, rfl⟩ | ⟨e', h'⟩
      · exact R.er.ow j _ s _ q h hi os rfl pj pk
      · exact R.er.ow j k s t q h h' os ot pj pk
  · rcases List.mem_cons.mp hq with rfl | hq
    · exact h2
    · exact R.sub q hq
  · rcases R.new q hq with h | h
    · exact .inl (List.mem_cons_of_mem _ h)
    · by_cases e : q = p
      · exact .inl (by rw [e]; exact List.mem_cons_self)
      · by_cases e2 : q ∈ B
        · exact .inl (List.mem_cons_of_mem _ e2)
        · right; rw [H0o_ne e e2]; exact h
  · rcases List.mem_cons.mp hq with rfl | hq
    · rw [H0o_p]; exact R.er.dom _ h2
    · rw [H0o_B hq]; exact R.er.dom _ (R.sub q hq)
  · by_cases e : b = p
    · subst e; exact absurd rfl hb
    · by_cases e2 : b ∈ B
      · rw [H0o_B e2] at ho; exact ho
      · rw [H0o_ne e e2] at ho
        exact R.same b o (fun z => e2 (R.mb b z)) ho
  · rcases get hj with ⟨rfl, z⟩ | ⟨e, h⟩
    · cases z
    · have z0 := R.wr j d q h pj
      have nq : q ≠ p := fun z => by
        subst z
        exact e (R.er.ow i j _ _ q hi h rfl rfl hp pj)
      have nB : q ∉ B := fun z => R.old q z z0
      rw [H0o_ne nq nB]; exact z0
  · cases hq; exact List.mem_cons_self
end
section
variable {X : Cx} {pos : Pos}
end
end FW
end

set_option linter.all false
set_option Elab.async false
set_option maxRecDepth 100000
set_option maxHeartbeats 1000000
namespace FW
open PySem L2
section
variable {X : Cx} {W : Str → St → Hp → Prop} {pos p : Pos} {e : Expr} {xe : En → Option Str}
end
end FW

set_option linter.all false
set_option Elab.async false
set_option maxRecDepth 100000
set_option maxHeartbeats 1000000
namespace FW
open PySem L2
/-! ## texts -/
def fStrA : List D → Option D
  | [.int i] => if i.natAbs < 2 ^ 1900 then some (.str (toString i)) else none
  | [.str x] => some (.str x)
  | _ => none
def fIntS : List D → Option D
  | [.str a] => if a.length ≤ 640 then (PySem.intText? a).map .int else none
  | _ => none
def fRmp : D → D → Option D
  | .str a, .str b => if a.length ≤ lim then some (.str (Txt.removeprefix a b)) else none
  | _, _ => none
def fSwith : D → D → Option D
  | .str a, .str b => some (.bl (Txt.startswith a b))
  | _, _ => none
def fIxS : D → D → Option D
  | .str z, .int i => if z.length ≤ lim then (atI z.cps.toList i).map fun c => .str ⟨#[c]⟩ else none
  | _, _ => none
def oneS (x : Str) : Option Nat := match x.cps.toList with
  | [c] => some c
  | _ => none
theorem oneS_eq {x : Str} {c : Nat} (h : oneS x = some c) : x = ⟨#[c]⟩ := by
  unfold oneS at h
  split at h
  · rename_i e
    cases h
    obtain ⟨a⟩ := x
    simp only at e
    rw [show a = #[c] from by rw [← Array.toArray_toList (xs := a), e]]
  · cases h
@[simp] theorem oneS_one {c : Nat} : oneS ⟨#[c]⟩ = some c := rfl
def fInS : D → D → Option D
  | .str x, .str z => (oneS x).map fun c => .bl (decide (c ∈ z.cps.toList))
  | _, _ => none
def fNotInS : D → D → Option D
  | .str x, .str z => (oneS x).map fun c => .bl (!decide (c ∈ z.cps.toList))
  | _, _ => none
def strsD : List D → Option (List Str)
  | [] => some []
  | .str x :: ds => (strsD ds).map (x :: ·)
  | _ :: _ => none
theorem strsD_eq : ∀ {ds : List D} {ys : List Str}, strsD ds = some ys → ds = ys.map .str
  | [], _, h => by cases h; rfl
  | d :: ds, ys, h => by
    cases d <;> simp only [strsD] at h <;> try cases h
    cases q : strsD ds with
    | none => rw [q] at h; cases h
    | some zs => rw [q] at h; cases h; rw [strsD_eq q]; rfl
@[simp] theorem strsD_map (ys : List Str) : strsD (ys.map D.str) = some ys := by
  induction ys with
  | nil => rfl
  | cons y ys ih => simp [strsD, ih]
theorem DVs.strs {K : PySem.W.Frag} {H : Hp} : ∀ {ys : List Str} {vs : List V}, DVs K H (ys.map D.str) vs → vs = ys.map V.str
  | [], _, h => by simpa [DVs] using h
  | y :: ys, _, h => by
    simp only [List.map_cons, DVs, DV] at h
    obtain ⟨v, r, rfl, rfl, h2⟩ := h
    rw [DVs.strs h2]; rfl
theorem dvs_strs {K : PySem.W.Frag} {H : Hp} : ∀ ys : List Str, DVs K H (ys.map D.str) (ys.map V.str)
  | [] => by simp [DVs]
  | n :: ns => by
    simp only [List.map_cons, DVs]
    exact ⟨_, _, rfl, by simp only [DV], dvs_strs ns⟩
def fJoinL : D → D → Option D
  | .str a, .lst ds => (strsD ds).bind fun ys => if (ys.map (·.length)).sum + ys.length * a.length ≤ 16000000 then some (.str (Txt.join a ys)) else none
  | _, _ => none
def eSplit (x y : BX) : EX := fun env => (x env).bind fun d => (y env).bind fun e => match d, e with
  | .str a, .str b => if (b.length == 0) = false ∧ a.length + 2 ≤ lim then some ⟨.lst ((Txt.split a b).map .str), true⟩ else none
  | _, _ => none
def srcS (x : EX) : AX := fun env => (x env).bind fun r => match r.d with
  | .str z => some (z.cps.toList.map fun c => .str ⟨#[c]⟩)
  | _ => none
section
variable {X : Cx} {e o a b : Expr} {xs : AX} {x y : BX} {p pos apos : Pos}
theorem call_strA : CallR X (.type "str") (fun xs H Q => (∃ i, xs = [V.int i] ∧ i.natAbs.log2 < 1920 ∧ Q (V.str (Str.ofString (toString i))) H) ∨ ∃ a, xs = [.str a] ∧ Q (.str a) H) := by
  intro pins s σ H xs us Q I rs h
  rcases h with h | ⟨a, rfl, q⟩
  · exact call_str_int pins s σ H xs us Q I rs h
  · cases rs with
    | cons r1 rs =>
      cases rs
      obtain ⟨t, rfl⟩ := r1
      exact PySem.P.str_of_str ⟨.str a, H, I, ⟨t, rfl⟩, q⟩
theorem cb_strA (hg : Gl X "str") (hm : X.mg "str" = none) (ha : PA X [e] (tBs X.K xs)) (he : starEach [e] X.env = (false, eval e X.env) :: starEach [] X.env := by rfl) : PE X (.Call (.Name "str" p) [e] [] pos) (tB X.K (bn fStrA xs)) :=
  cb_callT call_strA (fun O H ds r vs Q e b q => by
    unfold fStrA at e
    split at e
    · split at e
      · rename_i h
        cases e
        obtain ⟨v, rfl, b'⟩ := P1 b
        rw [b'.int]
        exact .inl ⟨_, rfl, Nat.lt_of_lt_of_le (log2_lt_of h (by decide)) (by decide), q⟩
      · cases e
    · cases e
      obtain ⟨v, rfl, b'⟩ := P1 b
      rw [b'.str]
      exact .inr ⟨_, rfl, q⟩
    · cases e) (fun ds r e => by unfold fStrA at e; split at e <;> first | (split at e <;> cases e; rfl) | (cases e; rfl) | cases e) hg hm boot_strT ha (he := he)
theorem cb_intS (hg : Gl X "int") (hm : X.mg "int" = none) (ha : PA X [e] (tBs X.K xs)) (he : starEach [e] X.env = (false, eval e X.env) :: starEach [] X.env := by rfl) : PE X (.Call (.Name "int" p) [e] [] pos) (tB X.K (bn fIntS xs)) :=
  cb_callT call_int_str (fun O H ds r vs Q e b q => by
    unfold fIntS at e
    split at e
    · split at e
      · rename_i h
        obtain ⟨v, rfl, b'⟩ := P1 b
        rw [b'.str]
        rw [Option.map_eq_some_iff] at e
        obtain ⟨n, h1, rfl⟩ := e
        exact ⟨_, n, rfl, h1, h, q⟩
      · cases e
    · cases e) (fun ds r e => by
      unfold fIntS at e
      split at e
      · split at e
        · rw [Option.map_eq_some_iff] at e
          obtain ⟨n, h1, rfl⟩ := e
          rfl
        · cases e
      · cases e) hg hm boot_intT ha (he := he)
/-! methods of a text -/
theorem mt_rmp : MtR X "str.removeprefix" (fun x xs H Q => ∃ a b, x = .str a ∧ xs = [.str b] ∧ a.length ≤ sizeLine ∧ Q (.str (Txt.removeprefix a b)) H) := by
  intro pins s σ H x xs v us Q I rx rs h
  obtain ⟨a, b, rfl, rfl, hz, h⟩ := h
  obtain ⟨t, rfl⟩ := rx
  cases rs with
  | cons r1 rs =>
    cases rs
    obtain ⟨u, rfl⟩ := r1
    exact PySem.SC.removeprefix (fun t' k => ⟨.str _, H, I.tok k, ⟨t', rfl⟩, h⟩) hz
theorem cb_m1 {id : String} {name : Str} {rr : V → List V → Hp → VK → Prop} {f : D → D → Option D} (slot : Slot "str" name id) (ty : typeOf (.builtin id) = pure (.type "method_descriptor")) (rule : MtR X id rr)
    (semS : ∀ d e r, f d e = some r → ∃ a, d = .str a) (sem : ∀ O H d e r v w Q, f d e = some r → BR X.K O H d v → BR X.K O H e w → Q r.v H → rr v [w] H Q) (hat : ∀ d e r, f d e = some r → r.at = true)
    (ho : PE X o (tB X.K x)) (he : PE X e (tB X.K y))
    (hs : starEach [e] X.env = [(false, eval e X.env)] := by rfl) (hbase : attributeBase o name X.env (eval o X.env) = eval o X.env := by rfl) (hline : (apos.endLine == pos.line) = true := by rfl) :
    PE X (.Call (.Attribute o name apos) [e] [] pos) (tB X.K (b2 f x y)) := (pe_m1 slot ty rule ho he hs hbase hline).imp fun σ H Q ⟨M, O, env, r, er, e, k⟩ => by
  unfold b2 at e
  cases q1 : x env with
  | none => rw [q1] at e; cases e
  | some d1 =>
    cases q2 : y env with
    | none => rw [q1, q2] at e; cases e
    | some d2 =>
      rw [q1, q2] at e
      simp only [Option.bind_some] at e
      refine ⟨M, O, env, _, er, q1, fun v H1 s1 r1 => ⟨?_, M, O, env, _, er.mono s1, q2, fun w H2 s2 r2 => ?_⟩⟩
      · obtain ⟨a, rfl⟩ := semS _ _ _ e
        exact ⟨a, r1.str⟩
      · exact sem O H2 d1 d2 r v w Q e (r1.mono s2) r2 (k _ H2 (s1.trans s2) (.inl (at_dv (hat _ _ _ e))))
theorem cb_rmp (ho : PE X o (tB X.K x)) (he : PE X e (tB X.K y))
    (hs : starEach [e] X.env = [(false, eval e X.env)] := by rfl) (hbase : attributeBase o "removeprefix" X.env (eval o X.env) = eval o X.env := by rfl) (hline : (apos.endLine == pos.line) = true := by rfl) :
    PE X (.Call (.Attribute o "removeprefix" apos) [e] [] pos) (tB X.K (b2 fRmp x y)) :=
  cb_m1 F.slot_str_removeprefix F.type_str_removeprefix mt_rmp (fun d e r h => by unfold fRmp at h; split at h; exact ⟨_, rfl⟩; cases h)
    (fun O H d e r v w Q h b1 b2 q => by
      unfold fRmp at h
      split at h
      · split at h
        · rename_i hl
          cases h
          exact ⟨_, _, b1.str, by rw [b2.str], lim_ok hl, q⟩
        · cases h
      · cases h) (fun d e r h => by unfold fRmp at h; split at h; (split at h <;> cases h; rfl); cases h) ho he hs hbase hline
theorem cb_joinL (ho : PE X o (tB X.K x)) (he : PE X e (tB X.K y))
    (hs : starEach [e] X.env = [(false, eval e X.env)] := by rfl) (hbase : attributeBase o "join" X.env (eval o X.env) = eval o X.env := by rfl) (hline : (apos.endLine == pos.line) = true := by rfl) :
    PE X (.Call (.Attribute o "join" apos) [e] [] pos) (tB X.K (b2 fJoinL x y)) :=
  cb_m1 F.slot_str_join F.type_str_join mt_join (fun d e r h => by unfold fJoinL at h; split at h; exact ⟨_, rfl⟩; cases h)
    (fun O H d e r v w Q h b1 b2 q => by
      unfold fJoinL at h
      split at h
      · rename_i a ds
        cases q1 : strsD ds with
        | none => rw [q1] at h; cases h
        | some ys =>
          rw [q1] at h
          simp only [Option.bind_some] at h
          split at h
          · rename_i hl
            cases h
            obtain ⟨p, vs, rfl, h1, h2⟩ := b2.lst
            rw [strsD_eq q1] at h2
            rw [h2.strs] at h1
            exact ⟨a, p, ys, b1.str, rfl, .inl h1, Nat.le_trans hl (by decide), q⟩
          · cases h
      · cases h) (fun d e r h => by
        unfold fJoinL at h
        split at h
        · rename_i a ds
          cases q1 : strsD ds with
          | none => rw [q1] at h; cases h
          | some ys =>
            rw [q1] at h
            simp only [Option.bind_some] at h
            split at h <;> cases h
            rfl
        · cases h) ho he hs hbase hline
theorem ce_split (ho : PE X o (tB X.K x)) (he : PE X e (tB X.K y))
    (hs : starEach [e] X.env = [(false, eval e X.env)] := by rfl) (hbase : attributeBase o "split" X.env (eval o X.env) = eval o X.env := by rfl) (hline : (apos.endLine == pos.line) = true := by rfl) :
    PE X (.Call (.Attribute o "split" apos) [e] [] pos) (tE X.K (eSplit x y)) := (pe_split ho he hs hbase hline).imp fun σ H Q ⟨M, O, env, r, er, e, k⟩ => by
  unfold eSplit at e
  cases q1 : x env with
  | none => rw [q1] at e; cases e
  | some d1 =>
    cases q2 : y env with
    | none => rw [q1, q2] at e; cases e
    | some d2 =>
      rw [q1, q2] at e
      simp only [Option.bind_some] at e
      split at e
      rotate_left
      · cases e
      rename_i ta tb
      split at e
      rotate_left
      · cases e
      rename_i hl
      cases e
      refine ⟨M, O, env, _, er, q1, fun v H1 s1 r1 => ⟨⟨_, r1.str⟩, M, O, env, _, er.mono s1, q2, fun w H2 s2 r2 => ?_⟩⟩
      refine ⟨ta, tb, r1.str, by rw [r2.str], hl.1, lim_ok hl.2, fun p2 hp => k _ _ ((s1.trans s2).trans (same_upd hp)) ⟨?_, fun _ => ⟨p2, rfl, (s1.trans s2).free hp, _, upd_same, dvs_strs _⟩⟩⟩
      simp only [DV]
      have np : p2 ∉ O := fun z => ((er.mono s1).mono s2).dom p2 z hp
      exact ⟨p2, _, rfl, .of (off_some.mpr ⟨np, upd_same⟩), dvs_strs _⟩
/-! items, in -/
theorem cb_ixS (ha : PE X a (tB X.K x)) (hb : PE X b (tB X.K y)) (hs : PlainIx b) : PE X (.Subscript a b pos) (tB X.K (b2 fIxS x y)) := (pe_ix ix_str ha hb hs).imp fun _ _ _ h => two
  (fun O H d e r v w Q h b1 b2 q => by
    unfold fIxS at h
    split at h
    · split at h
      · rename_i hl
        rw [Option.map_eq_some_iff] at h
        obtain ⟨c, h1, rfl⟩ := h
        exact ⟨_, _, c, b1.str, b2.int, lim_ok hl, h1, q⟩
      · cases h
    · cases h) (fun d e r h => by
    unfold fIxS at h
    split at h
    · split at h
      · rw [Option.map_eq_some_iff] at h
        obtain ⟨c, h1, rfl⟩ := h
        rfl
      · cases h
    · cases h) h
theorem sem_inS : ∀ O H d e r v w (Q : VK), fInS d e = some r → BR X.K O H d v → BR X.K O H e w → Q r.v H → ∃ (c : Nat) (z : Str), v = .str ⟨#[c]⟩ ∧ w = .str z ∧ Q (.bl (decide (c ∈ z.cps.toList))) H := by
  intro O H d e r v w Q h b1 b2 q
  unfold fInS at h
  split at h
  · rw [Option.map_eq_some_iff] at h
    obtain ⟨c, h1, rfl⟩ := h
    exact ⟨c, _, by rw [b1.str, oneS_eq h1], b2.str, q⟩
  · cases h
theorem at_inS : ∀ d e r, fInS d e = some r → r.at = true := by
  intro d e r h
  unfold fInS at h
  split at h
  · rw [Option.map_eq_some_iff] at h
    obtain ⟨c, h1, rfl⟩ := h
    rfl
  · cases h
theorem cb_inS (ha : PE X a (tB X.K x)) (hb : PE X b (tB X.K y)) (hm : behindInMarks .In b = false) : PE X (.Compare a [.In] [b] pos) (tB X.K (b2 fInS x y)) := cb_cmp op_in_sign sem_inS at_inS hm ha hb
end
/-! signs of a text, one by one -/
theorem it_strS {K : PySem.W.Frag} {z : Str} : ItOk K (Its z) (z.cps.toList.map fun c => D.str ⟨#[c]⟩) (fun _ => True) := by
  refine ⟨fun i H O _ g hi => ?_, fun H O _ g => ?_, fun i H O x H' _ g hi y => ?_⟩
  · show i < z.cps.size
    simpa using hi
  · show z.cps.size ≤ _
    simp
  · obtain ⟨rfl, c, h1, rfl⟩ := y
    exact ⟨.str ⟨#[c]⟩, by rw [List.getElem?_map, Array.getElem?_toList, h1]; rfl, Same.refl _, by simp only [DV]⟩
theorem pix_str {K : PySem.W.Frag} {x : EX} : PIx K (iStr (tE K x)) (srcS x) := by
  intro M O env σ H ds R er e k
  unfold srcS at e
  cases q : x env with
  | none => rw [q] at e; cases e
  | some r =>
    rw [q] at e
    simp only [Option.bind_some] at e
    split at e
    · rename_i z hd
      cases e
      refine ⟨M, O, env, r, er, q, fun v H1 s1 ok => ?_⟩
      have h := ok.1
      rw [hd] at h
      simp only [DV] at h
      subst h
      exact ⟨z, rfl, k _ H1 _ s1 (fun A B s z => trivial) trivial it_strS⟩
    · cases e
/-! ## a dict that the module's top has written, and that nobody changes -/
def KD (P : Program) (w : World) (K : PySem.W.Frag) (mg : Str → Option Value) (x : Str) (kvs : List (Key × D)) : Prop :=
  ∃ a f, mg x = some (.ref a) ∧ (a == sysModules) = false ∧ (∀ h, K.In h → Heap.MapOf (mixKind P w) h a f) ∧ ∀ k, match valD kvs k with
    | some d => d.at = true ∧ ∃ v, f k = some v ∧ RelV d.v v
    | none => f k = none
def bInK (kvs : List (Key × D)) (x : BX) : BX := fun env => (x env).bind fun d => (keyD d).map fun k => .bl (valD kvs k).isSome
def bIxK (kvs : List (Key × D)) (x : BX) : BX := fun env => (x env).bind fun d => (keyD d).bind fun k => valD kvs k
end FW

set_option linter.all false
set_option Elab.async false
set_option maxRecDepth 100000
set_option maxHeartbeats 1000000
namespace FW
open PySem L2
section
variable {X : Cx} {a i : Expr} {xa : BX} {p pos : Pos} {x : Str} {kvs : List (Key × D)}
theorem op_inK : OpR X (compareOp .In) (fun x y H Q => ∃ k a f, x = kV k ∧ y = .ref a ∧ (a == sysModules) = false ∧ (∀ h, X.K.In h → Heap.MapOf (mixKind X.prog X.w) h a f) ∧ Q (.bl (f k).isSome) H) := by
  intro pins s σ H x y v u Q I rx ry h
  obtain ⟨k, a, f, rfl, rfl, hd, hM, q⟩ := h
  cases (show u = Value.ref a from ry)
  exact wpAny_in_of (kV_is rx) hd (hM _ I.kIn) ⟨.bl _, H, I.tok _, rfl, q⟩
theorem cb_inK (hg : Gl X x) (dk : KD X.prog X.w X.K X.mg x kvs) (ha : PE X a (tB X.K xa)) (hdb : (x == ("__debug__" : Str)) = false := by decide) (hm : behindInMarks .In (.Name x p) = false := by rfl) : PE X (.Compare a [.In] [.Name x p] pos) (tB X.K (bInK kvs xa)) := by
  obtain ⟨ad, f, h1, h2, h3, h4⟩ := dk
  refine (pe_cmpR op_inK ha (pe_glob (v := .ref ad) hg h1 rfl hdb) hm).imp fun σ H Q ⟨M, O, env, r, er, e, k⟩ => ?_
  unfold bInK at e
  cases q1 : xa env with
  | none => rw [q1] at e; cases e
  | some d1 =>
    rw [q1] at e
    simp only [Option.bind_some] at e
    rw [Option.map_eq_some_iff] at e
    obtain ⟨ky, h5, rfl⟩ := e
    refine ⟨M, O, env, _, er, q1, fun v H1 s1 r1 => ?_⟩
    refine ⟨ky, ad, f, keyD_v h5 r1, rfl, h2, h3, ?_⟩
    have h6 := h4 ky
    cases q2 : valD kvs ky with
    | none =>
      rw [q2] at h6
      rw [show f ky = none from h6]
      exact k _ H1 s1 (.inl (by simp only [DV, q2]; rfl))
    | some d =>
      rw [q2] at h6
      obtain ⟨_, v', h7, _⟩ := h6
      rw [h7]
      exact k _ H1 s1 (.inl (by simp only [DV, q2]; rfl))
theorem cb_ixK (hg : Gl X x) (dk : KD X.prog X.w X.K X.mg x kvs) (ha : PE X i (tB X.K xa)) (hs : PlainIx i) (hdb : (x == ("__debug__" : Str)) = false := by decide) : PE X (.Subscript (.Name x p) i pos) (tB X.K (bIxK kvs xa)) := by
  obtain ⟨ad, f, h1, h2, h3, h4⟩ := dk
  intro pins s σ H Q I ⟨M, O, env, r, er, e, k⟩
  unfold bIxK at e
  cases q1 : xa env with
  | none => rw [q1] at e; cases e
  | some d1 =>
    rw [q1] at e
    simp only [Option.bind_some] at e
    cases h5 : keyD d1 with
    | none => rw [h5] at e; cases e
    | some ky =>
      rw [h5] at e
      simp only [Option.bind_some] at e
      have h6 := h4 ky
      rw [e] at h6
      obtain ⟨hat, v', h7, h8⟩ := h6
      refine subD_of PySem.F.slot_dict_getitem.lookup (fun o i => hs o i) (thn ((pe_glob (v := .ref ad) (pos := p) hg h1 rfl hdb) pins s σ H (fun v H1 => v = .ref ad ∧ H1 = H) I ⟨rfl, rfl⟩) fun u s1 ⟨x, H1, I1, rx, q1', q2'⟩ => ?_)
      subst q1' q2'
      obtain rfl : u = Value.ref ad := rx
      refine thn (ha pins s1 σ H1 (fun v H2 => Same H1 H2 ∧ BR X.K O H2 d1 v) I1 ⟨M, O, env, d1, er, q1, fun v H' s b => ⟨s, b⟩⟩) fun iv s2 ⟨y, H2, I2, ry, s2', b⟩ => ?_
      rw [keyD_v h5 b] at ry
      refine ⟨?_, wpAny_getItem_of (kV_is ry) (h3 _ I2.kIn) h7 ⟨r.v, H2, I2.tok _, h8, k _ H2 s2' (.inl (at_dv hat))⟩⟩
      obtain ⟨ob, _, _, g1, g2, _⟩ := h3 _ I2.kIn
      exact ⟨ob, g1, g2.1⟩
end
/-! how such a dict is had -/
def relE (P : Program) (w : World) : List DictEntry → List (Key × D) → Prop
  | [], [] => True
  | e :: es, kv :: kvs => ((mixKind P w).is kv.1 e.key = true ∧ e.hash = (mixKind P w).hash kv.1 ∧ kv.2.at = true ∧ RelV kv.2.v e.val) ∧ relE P w es kvs
  | _, _ => False
theorem kd_mk {P : Program} {w : World} {K : PySem.W.Frag} {h : Heap} {mg : Str → Option Value} {x : Str} {a : Addr} {es : Array DictEntry} {n : Nat} {kvs : List (Key × D)} (X : K.In h) (G : h.Ns mainGlobals mg) (e : PySem.W.nsIn K mainGlobals x = some (some (.ref a)))
    (l : K.lookup a = some ⟨.type "dict", none, .dict es n, #[]⟩) (hs : (a == sysModules) = false) (r : relE P w es.toList kvs) (nd : (kvs.map (·.1)).Nodup) : KD P w K mg x kvs := by
  have main : ∀ (es : List DictEntry) (kvs : List (Key × D)), relE P w es kvs → ∃ vs : List (Key × Value), Pairs (mixKind P w) es vs ∧ vs.map (·.1) = kvs.map (·.1) ∧ (∀ e ∈ es, ∃ k, (mixKind P w).is k e.key = true ∧ e.hash = (mixKind P w).hash k) ∧
      ∀ k, match valD kvs k with
        | some d => d.at = true ∧ ∃ v, valueAt vs k = some v ∧ RelV d.v v
        | none => valueAt vs k = none := by
    intro es
    induction es with
    | nil =>
      intro kvs r
      cases kvs with
      | nil => exact ⟨[], .nil, rfl, fun e he => by simp at he, fun k => rfl⟩
      | cons kv kvs => exact r.elim
    | cons e es ih =>
      intro kvs r
      cases kvs with
      | nil => exact r.elim
      | cons kv kvs =>
        obtain ⟨⟨r1, r2, r3, r4⟩, r5⟩ := r
        obtain ⟨vs, i1, i2, i3, i4⟩ := ih kvs r5
        refine ⟨(kv.1, e.val) :: vs, .cons r1 rfl i1, by simp [i2], fun e' he => ?_, fun k => ?_⟩
        · rcases List.mem_cons.mp he with rfl | he
          · exact ⟨_, r1, r2⟩
          · exact i3 _ he
        · by_cases hk : kv.1 = k
          · rw [show valD (kv :: kvs) k = some kv.2 from by simp [valD, List.find?_cons, hk]]
            exact ⟨r3, e.val, by simp [valueAt, List.find?_cons, hk], r4⟩
          · rw [show valD (kv :: kvs) k = valD kvs k from by simp [valD, List.find?_cons, hk], show valueAt ((kv.1, e.val) :: vs) k = valueAt vs k from by simp [valueAt, List.find?_cons, hk]]
            exact i4 k
  obtain ⟨vs, m1, m2, m3, m4⟩ := main es.toList kvs r
  refine ⟨a, valueAt vs, PySem.W.mg_of X G e, hs, fun h' X' => Heap.DictOf.mapOf ⟨_, es, n, X' a _ l, ⟨rfl, rfl, rfl⟩, rfl, fun e' he => m3 e' (by simpa using he), m1, by rw [m2]; exact nd⟩, m4⟩
theorem gk_str {K : PySem.W.Frag} {h : Heap} {mg : Str → Option Value} {x i : Str} {t : Tok} (X : K.In h) (G : h.Ns mainGlobals mg) (e : PySem.W.nsIn K mainGlobals x = some (some (.str i t))) : GK K mg x (.str i) :=
  ⟨.str i, _, PySem.W.mg_of X G e, ⟨t, rfl⟩, fun H => by simp only [DV]⟩
end FW

set_option linter.all false
set_option Elab.async false
set_option maxRecDepth 100000
set_option maxHeartbeats 4000000
namespace Lk57
open PySem L2 FW
noncomputable section
def top (i : Nat) : Stmt := PySem.Challenge.pw_frothwane_k57_orders_written_and_read.main.body.getD i (.Pass ⟨0, 0, 0, 0⟩)
abbrev st_shown : Stmt := top 8
def S_shown : SX := sRet (eB (b2 fJoinL (cst (.str " ")) (bE (eLcV 0 (gdName 1) (cst (.bl true)) (eB (bn fStrA (abCons (bVar 1) aNil))) [1]))))
theorem sc_shown : FnScope ["order", "part"] ["order"] (defScope st_shown) := ⟨rfl, rfl, rfl, by decide +kernel, rfl, by decide +kernel, by decide +kernel⟩
theorem ok_shown {P : Program} {w : World} {K : PySem.W.Frag} {mg : Str → Option Value} {base : Heap} {fn : Addr} {fd : FuncData} {Fn : List D → Option RV} (Fu : Fun K "shown" "shown" st_shown fn fd) (mf : mg "shown" = some (.ref fn)) (bf : Binds K fd ["order"] []) (b_str : mg "str" = none)
    (hF : ∀ ds r, Fn ds = some r → ∃ n, fnD 2 S_shown n ds = some r) : Cal P w K mg base 1 "shown" 1 Fn := by
  have nd := sc_shown.nd
  exact Cal.mk Fu mf bf sc_shown (by decide) hF fun cdv A outer s0 H E hr => css_one (cs_ret (ce_b (cb_joinL cb_str (cb_e (ce_lcV (own := [("part", 1)]) (g := gName 1) rfl nd (pv 0) (blkOk_by (own := [("part", 1)]) (N := ["order", "part"]) (sc := defScope st_shown) (by decide +kernel)) (fun _ _ _ _ _ => pg_name (i := 1) nd rfl (by first | exact Or.inl rfl | exact Or.inr rfl)) (te_name (by decide)) (fun _ _ _ _ _ => pts_yes) (fun _ _ _ _ _ => ce_b (cb_strA rfl b_str (cab_cons (cb_var (pv 1)) cab_nil))))))))
abbrev st_is_number : Stmt := top 9
def S_is_number : SX := sSeq (sSet 1 (eB (b2 fRmp (bVar 0) (cst (.str "-"))))) (sSeq (sIf (bNot (bLeLe (cst (.int 1)) (bn fLen (abCons (bVar 1) aNil)) (bE (eK (.int 12))))) (sRet (eB (cst (.bl false)))) sNext) (sSeq (sFrz 1 (sIf (bNot (bn fAll (abCons (bE (eLc (srcS (eVar 1)) (gdName 2) (cst (.bl true)) (eB (b2 fInS (bVar 2) (bE (eK (.str "0123456789"))))) [2])) aNil))) (sRet (eB (cst (.bl false)))) sNext)) (sRet (eB (bOr (b2 fNe (b2 fIxS (bVar 1) (cst (.int 0))) (cst (.str "0"))) (b2 fEq (bVar 0) (cst (.str "0"))))))))
theorem sc_is_number : FnScope ["text", "figures", "sign"] ["text"] (defScope st_is_number) := ⟨rfl, rfl, rfl, by decide +kernel, rfl, by decide +kernel, by decide +kernel⟩
theorem ok_is_number {P : Program} {w : World} {K : PySem.W.Frag} {mg : Str → Option Value} {base : Heap} {fn : Addr} {fd : FuncData} {Fn : List D → Option RV} (Fu : Fun K "is_number" "is_number" st_is_number fn fd) (mf : mg "is_number" = some (.ref fn)) (bf : Binds K fd ["text"] []) (b_len : mg "len" = none) (b_all : mg "all" = none) (g_MOST_FIGURES : GK K mg "MOST_FIGURES" (.int 12)) (g_FIGURES : GK K mg "FIGURES" (.str "0123456789"))
    (hF : ∀ ds r, Fn ds = some r → ∃ n, fnD 3 S_is_number n ds = some r) : Cal P w K mg base 1 "is_number" 1 Fn := by
  have nd := sc_is_number.nd
  exact Cal.mk Fu mf bf sc_is_number (by decide) hF fun cdv A outer s0 H E hr => css_cons (cs_set (i := 1) nd rfl (by first | exact Or.inl rfl | exact Or.inr rfl) (ce_b (cb_rmp (cb_var (pv 0)) cb_str))) (css_cons (cs_if (ct_not (ct_lele cb_int (cb_len rfl b_len (cab_cons (cb_var (pv 1)) cab_nil)) (cb_e (ce_glob rfl g_MOST_FIGURES)))) (css_one (cs_ret (ce_b cb_bl))) css_nil) (css_cons (cs_frz 1 (cs_if (ct_not (ct_val (cb_all rfl rfl b_all (cab_cons (cb_e (ce_lc (own := [("sign", 2)]) (g := gName 2) rfl nd (pi_str (ce_var (pv 1))) pix_str (blkOk_by (own := [("sign", 2)]) (N := ["text", "figures", "sign"]) (sc := defScope st_is_number) (by decide +kernel)) (fun _ _ _ _ _ => pg_name (i := 2) nd rfl (by first | exact Or.inl rfl | exact Or.inr rfl)) (te_name (by decide)) (fun _ _ _ _ _ => pts_yes) (fun _ _ _ _ _ => ce_b (cb_inS (cb_var (pv 2)) (cb_e (ce_glob rfl g_FIGURES)) (by rfl))))) cab_nil)))) (css_one (cs_ret (ce_b cb_bl))) css_nil)) (css_one (cs_ret (ce_b (cb_or (cb_ne hr.units (cb_ixS (cb_var (pv 1)) cb_int (fun _ _ => rfl)) cb_str) (cb_one (cb_eq hr.units (cb_var (pv 0)) cb_str))))))))
abbrev st_takes_numbers : Stmt := top 10
def S_takes_numbers : SX := sSeq (sIf (b2 fEq (bVar 0) (cst (.str "begin"))) (sRet (eB (b2 fGe (bVar 1) (bE (eK (.int 3)))))) sNext) (sRet (eB (bAnd (bInK [(.inr "push", .int 1), (.inr "pull", .int 1), (.inr "burst", .int 1), (.inr "part", .int 4), (.inr "blow", .int 3), (.inr "wait", .int 2)] (bVar 0)) (b2 fEq (bIxK [(.inr "push", .int 1), (.inr "pull", .int 1), (.inr "burst", .int 1), (.inr "part", .int 4), (.inr "blow", .int 3), (.inr "wait", .int 2)] (bVar 0)) (bVar 1)))))
theorem sc_takes_numbers : FnScope ["word", "many"] ["word", "many"] (defScope st_takes_numbers) := ⟨rfl, rfl, rfl, by decide +kernel, rfl, by decide +kernel, by decide +kernel⟩
theorem ok_takes_numbers {P : Program} {w : World} {K : PySem.W.Frag} {mg : Str → Option Value} {base : Heap} {fn : Addr} {fd : FuncData} {Fn : List D → Option RV} (Fu : Fun K "takes_numbers" "takes_numbers" st_takes_numbers fn fd) (mf : mg "takes_numbers" = some (.ref fn)) (bf : Binds K fd ["word", "many"] []) (g_LEAST_OF_BEGIN : GK K mg "LEAST_OF_BEGIN" (.int 3)) (g_NUMBERS_OF : KD P w K mg "NUMBERS_OF" [(.inr "push", .int 1), (.inr "pull", .int 1), (.inr "burst", .int 1), (.inr "part", .int 4), (.inr "blow", .int 3), (.inr "wait", .int 2)])
    (hF : ∀ ds r, Fn ds = some r → ∃ n, fnD 2 S_takes_numbers n ds = some r) : Cal P w K mg base 1 "takes_numbers" 2 Fn := by
  have nd := sc_takes_numbers.nd
  exact Cal.mk Fu mf bf sc_takes_numbers (by decide) hF fun cdv A outer s0 H E hr => css_cons (cs_if (ct_eq hr.units (cb_var (pv 0)) cb_str) (css_one (cs_ret (ce_b (cb_ge (cb_var (pv 1)) (cb_e (ce_glob rfl g_LEAST_OF_BEGIN)))))) css_nil) (css_one (cs_ret (ce_b (cb_and (cb_inK rfl g_NUMBERS_OF (cb_var (pv 0))) (cb_one (cb_eq hr.units (cb_ixK rfl g_NUMBERS_OF (cb_var (pv 0)) (fun _ _ => rfl)) (cb_var (pv 1))))))))
abbrev st_read : Stmt := top 11
def S_read (F_takes_numbers : List D → Option RV) (F_is_number : List D → Option RV) : SX := sSeq (sSet 1 (eSplit (bVar 0) (cst (.str " ")))) (sSeq (sSet 2 (eIx (bVar 1) (cst (.int 0)))) (sSeq (sSet 3 (eSlice (bVar 1) (oInt (cst (.int 1))) oNone)) (sSeq (sFrz 3 (sIf (bOr (bNot (bE (eCallN 2 F_takes_numbers (aCons (eVar 2) (aCons (eB (bn fLen (abCons (bVar 3) aNil))) aNil))))) (bNot (bn fAll (abCons (bE (eLcV 3 (gdName 4) (cst (.bl true)) (eCallN 1 F_is_number (aCons (eVar 4) aNil)) [4])) aNil)))) sNever sNext)) (sFrz 3 (sRet (eTupL (bE (eCat (bE (eLst (aCons (eVar 2) aNil))) (bE (eLcV 3 (gdName 4) (cst (.bl true)) (eB (bn fIntS (abCons (bVar 4) aNil))) [4]))))))))))
theorem sc_read : FnScope ["text", "parts", "word", "numbers", "part"] ["text"] (defScope st_read) := ⟨rfl, rfl, rfl, by decide +kernel, rfl, by decide +kernel, by decide +kernel⟩
theorem ok_read {P : Program} {w : World} {K : PySem.W.Frag} {mg : Str → Option Value} {base : Heap} {fn : Addr} {fd : FuncData} {F_takes_numbers : List D → Option RV} {F_is_number : List D → Option RV} {Fn : List D → Option RV} (Fu : Fun K "read" "read" st_read fn fd) (mf : mg "read" = some (.ref fn)) (bf : Binds K fd ["text"] []) (C_takes_numbers : Cal P w K mg base 1 "takes_numbers" 2 F_takes_numbers) (C_is_number : Cal P w K mg base 1 "is_number" 1 F_is_number) (b_len : mg "len" = none) (b_all : mg "all" = none) (b_int : mg "int" = none) (b_tuple : mg "tuple" = none)
    (hF : ∀ ds r, Fn ds = some r → ∃ n, fnD 5 (S_read F_takes_numbers F_is_number) n ds = some r) : Cal P w K mg base 2 "read" 1 Fn := by
  have nd := sc_read.nd
  exact Cal.mk Fu mf bf sc_read (by decide) hF fun cdv A outer s0 H E hr => css_cons (cs_set (i := 1) nd rfl (by first | exact Or.inl rfl | exact Or.inr rfl) (ce_split (cb_var (pv 0)) cb_str)) (css_cons (cs_set (i := 2) nd rfl (by first | exact Or.inl rfl | exact Or.inr rfl) (ce_ix (hu_of hr) (cb_var (pv 1)) cb_int (fun _ _ => rfl))) (css_cons (cs_set (i := 3) nd rfl (by first | exact Or.inl rfl | exact Or.inr rfl) (ce_slice (cb_var (pv 1)) (co_int cb_int) co_none)) (css_cons (cs_frz 3 (cs_if (PW.pt (cw_or (ct_not (ct_val (cb_e (ce_callC C_takes_numbers hr (by decide) rfl (ca_cons (ce_var (pv 2)) (ca_cons (ce_b (cb_len rfl b_len (cab_cons (cb_var (pv 3)) cab_nil))) ca_nil)))))) (cw_or1 (ct_not (ct_val (cb_all rfl rfl b_all (cab_cons (cb_e (ce_lcV (own := [("part", 4)]) (g := gName 4) rfl nd (pv 3) (blkOk_by (own := [("part", 4)]) (N := ["text", "parts", "word", "numbers", "part"]) (sc := defScope st_read) (by decide +kernel)) (fun _ _ _ _ _ => pg_name (i := 4) nd rfl (by first | exact Or.inl rfl | exact Or.inr rfl)) (te_name (by decide)) (fun _ _ _ _ _ => pts_yes) (fun _ _ _ _ _ => ce_callC C_is_number hr (by decide) rfl (ca_cons (ce_var (pv 4)) ca_nil)))) cab_nil))))))) (css_one cs_never) css_nil)) (css_one (cs_frz 3 (cs_ret (ce_tupL rfl b_tuple (cb_e (ce_cat (cb_e (ce_lst (ca_cons (ce_var (pv 2)) ca_nil))) (cb_e (ce_lcV (own := [("part", 4)]) (g := gName 4) rfl nd (pv 3) (blkOk_by (own := [("part", 4)]) (N := ["text", "parts", "word", "numbers", "part"]) (sc := defScope st_read) (by decide +kernel)) (fun _ _ _ _ _ => pg_name (i := 4) nd rfl (by first | exact Or.inl rfl | exact Or.inr rfl)) (te_name (by decide)) (fun _ _ _ _ _ => pts_yes) (fun _ _ _ _ _ => ce_b (cb_intS rfl b_int (cab_cons (cb_var (pv 4)) cab_nil))))))))))))))
abbrev st_law_seed : Stmt := top 13
def S_law_seed : SX := sSeq (sIf (b2 fGe (bVar 0) (b2 fPow (cst (.int 10)) (cst (.int 18)))) (sRetV 0) sNext) (sSeq (sSet 1 (eB (b2 fMod (b2 fMul (b2 fMod (b2 fAdd (b2 fMul (bVar 0) (cst (.int 48271))) (cst (.int 7919))) (cst (.int 2147483647))) (cst (.int 16807))) (cst (.int 2147483629))))) (sSeq (sSet 2 (eB (b2 fMod (b2 fMul (b2 fMod (b2 fAdd (b2 fMul (bVar 0) (cst (.int 69621))) (cst (.int 104729))) (cst (.int 2147483587))) (cst (.int 40692))) (cst (.int 2147483399))))) (sRet (eB (b2 fAdd (b2 fMul (bVar 1) (cst (.int 2147483399))) (bVar 2))))))
theorem sc_law_seed : FnScope ["_law_cell_here", "_law_one", "_law_two"] ["_law_cell_here"] (defScope st_law_seed) := ⟨rfl, rfl, rfl, by decide +kernel, rfl, by decide +kernel, by decide +kernel⟩
theorem ok_law_seed {P : Program} {w : World} {K : PySem.W.Frag} {mg : Str → Option Value} {base : Heap} {fn : Addr} {fd : FuncData} {Fn : List D → Option RV} (Fu : Fun K "_law_seed" "_law_seed" st_law_seed fn fd) (mf : mg "_law_seed" = some (.ref fn)) (bf : Binds K fd ["_law_cell_here"] [])
    (hF : ∀ ds r, Fn ds = some r → ∃ n, fnD 3 S_law_seed n ds = some r) : Cal P w K mg base 1 "_law_seed" 1 Fn := by
  have nd := sc_law_seed.nd
  exact Cal.mk Fu mf bf sc_law_seed (by decide) hF fun cdv A outer s0 H E hr => css_cons (cs_if (ct_ge (cb_var (pv 0)) (cb_pow cb_int cb_int)) (css_one (cs_retV (pv 0))) css_nil) (css_cons (cs_set (i := 1) nd rfl (by first | exact Or.inl rfl | exact Or.inr rfl) (ce_b (cb_mod (cb_mul (cb_mod (cb_add (cb_mul (cb_var (pv 0)) cb_int) cb_int) cb_int) cb_int) cb_int))) (css_cons (cs_set (i := 2) nd rfl (by first | exact Or.inl rfl | exact Or.inr rfl) (ce_b (cb_mod (cb_mul (cb_mod (cb_add (cb_mul (cb_var (pv 0)) cb_int) cb_int) cb_int) cb_int) cb_int))) (css_one (cs_ret (ce_b (cb_add (cb_mul (cb_var (pv 1)) cb_int) (cb_var (pv 2))))))))
abbrev st_law_digits : Stmt := top 14
def S_law_digits (F_law_seed : List D → Option RV) : SX := sSeq (sSet 2 (eCallN 1 F_law_seed (aCons (eVar 0) aNil))) (sSeq (sSet 3 (eLst aNil)) (sSeq (sFor (srcEn (eVar 1)) (gdSeq [4, 5]) (sSeq (sIf (b2 fLt (bVar 2) (bVar 5)) (sSet 2 (eCallN 1 F_law_seed (aCons (eB (b2 fAdd (b2 fAdd (bVar 2) (b2 fMul (cst (.int 131)) (bVar 4))) (b2 fMod (bVar 0) (cst (.int 1009))))) aNil))) sNext) (sSeq (sAppend 3 (eB (b2 fMod (bVar 2) (bVar 5)))) (sSet 2 (eB (b2 fDiv (bVar 2) (bVar 5))))))) (sRetV 3)))
theorem sc_law_digits : FnScope ["_law_cell_here", "_law_sizes", "_law_rest", "_law_found", "_law_k", "_law_size"] ["_law_cell_here", "_law_sizes"] (defScope st_law_digits) := ⟨rfl, rfl, rfl, by decide +kernel, rfl, by decide +kernel, by decide +kernel⟩
theorem ok_law_digits {P : Program} {w : World} {K : PySem.W.Frag} {mg : Str → Option Value} {base : Heap} {fn : Addr} {fd : FuncData} {F_law_seed : List D → Option RV} {Fn : List D → Option RV} (Fu : Fun K "_law_digits" "_law_digits" st_law_digits fn fd) (mf : mg "_law_digits" = some (.ref fn)) (bf : Binds K fd ["_law_cell_here", "_law_sizes"] []) (C_law_seed : Cal P w K mg base 1 "_law_seed" 1 F_law_seed) (b_enumerate : mg "enumerate" = none)
    (hF : ∀ ds r, Fn ds = some r → ∃ n, fnD 6 (S_law_digits F_law_seed) n ds = some r) : Cal P w K mg base 2 "_law_digits" 2 Fn := by
  have nd := sc_law_digits.nd
  exact Cal.mk Fu mf bf sc_law_digits (by decide) hF fun cdv A outer s0 H E hr => css_cons (cs_set (i := 2) nd rfl (by first | exact Or.inl rfl | exact Or.inr rfl) (ce_callC C_law_seed hr (by decide) rfl (ca_cons (ce_var (pv 0)) ca_nil))) (css_cons (cs_set (i := 3) nd rfl (by first | exact Or.inl rfl | exact Or.inr rfl) (ce_lst ca_nil)) (css_cons (cs_for PassesOwn.never rfl (pi_enum rfl b_enumerate (pa_cons (ce_var (pv 1)) pa_nil)) pix_enum (pg_seq (t := gsAll [4, 5]) rfl (pgs_cons (pg_name (i := 4) nd rfl (by first | exact Or.inl rfl | exact Or.inr rfl)) (pgs_cons (pg_name (i := 5) nd rfl (by first | exact Or.inl rfl | exact Or.inr rfl)) pgs_nil))) (tg_seq rfl) (css_cons (cs_if (ct_lt (cb_var (pv 2)) (cb_var (pv 5))) (css_one (cs_set (i := 2) nd rfl (by first | exact Or.inl rfl | exact Or.inr rfl) (ce_callC C_law_seed hr (by decide) rfl (ca_cons (ce_b (cb_add (cb_add (cb_var (pv 2)) (cb_mul cb_int (cb_var (pv 4)))) (cb_mod (cb_var (pv 0)) cb_int))) ca_nil)))) css_nil) (css_cons (cs_append (pv 3) (ce_b (cb_mod (cb_var (pv 2)) (cb_var (pv 5)))) (pe_bm PySem.F.plainAttrs_list PySem.F.slot_list_append PySem.F.type_list_append mt_append (pv 3) (pa_cons (ce_b (cb_mod (cb_var (pv 2)) (cb_var (pv 5)))) pa_nil))) (css_one (cs_set (i := 2) nd rfl (by first | exact Or.inl rfl | exact Or.inr rfl) (ce_b (cb_div (cb_var (pv 2)) (cb_var (pv 5))))))))) (css_one (cs_retV (pv 3)))))
abbrev st_law_cell : Stmt := top 15
def S_law_cell : SX := sSeq (sIf (b2 fLt (bVar 1) (bn fLen (abCons (bVar 0) aNil))) (sRet (eIx (bVar 0) (bVar 1))) sNext) (sRet (eB (cst (.int 0))))
theorem sc_law_cell : FnScope ["_law_script", "_law_place"] ["_law_script", "_law_place"] (defScope st_law_cell) := ⟨rfl, rfl, rfl, by decide +kernel, rfl, by decide +kernel, by decide +kernel⟩
theorem ok_law_cell {P : Program} {w : World} {K : PySem.W.Frag} {mg : Str → Option Value} {base : Heap} {fn : Addr} {fd : FuncData} {Fn : List D → Option RV} (Fu : Fun K "_law_cell" "_law_cell" st_law_cell fn fd) (mf : mg "_law_cell" = some (.ref fn)) (bf : Binds K fd ["_law_script", "_law_place"] []) (b_len : mg "len" = none)
    (hF : ∀ ds r, Fn ds = some r → ∃ n, fnD 2 S_law_cell n ds = some r) : Cal P w K mg base 1 "_law_cell" 2 Fn := by
  have nd := sc_law_cell.nd
  exact Cal.mk Fu mf bf sc_law_cell (by decide) hF fun cdv A outer s0 H E hr => css_cons (cs_if (ct_lt (cb_var (pv 1)) (cb_len rfl b_len (cab_cons (cb_var (pv 0)) cab_nil))) (css_one (cs_ret (ce_ix (hu_of hr) (cb_var (pv 0)) (cb_var (pv 1)) (fun _ _ => rfl)))) css_nil) (css_one (cs_ret (ce_b cb_int)))
abbrev st_law_order_drawn : Stmt := top 16
def S_law_order_drawn (F_law_digits : List D → Option RV) : SX := sSeq (sAsg (eCallN 2 F_law_digits (aCons (eVar 0) (aCons (eLst (aCons (eB (cst (.int 7))) (aCons (eB (b2 fPow (cst (.int 10)) (cst (.int 12)))) (aCons (eB (b2 fPow (cst (.int 10)) (cst (.int 12)))) (aCons (eB (b2 fPow (cst (.int 10)) (cst (.int 12)))) (aCons (eB (b2 fPow (cst (.int 10)) (cst (.int 12)))) (aCons (eB (cst (.int 4))) aNil))))))) aNil))) (gdSeq [3, 4, 5, 6, 7, 8])) (sSeq (sSet 1 (eLst (aCons (eVar 4) (aCons (eVar 5) (aCons (eVar 6) (aCons (eVar 7) aNil)))))) (sSeq (sIf (b2 fLt (bVar 8) (cst (.int 2))) (sFrz 1 (sSet 1 (eLcV 1 (gdName 10) (cst (.bl true)) (eB (b2 fSub (b2 fMod (bVar 10) (bE (eIx (bE (eLst (aCons (eB (cst (.int 12))) (aCons (eB (cst (.int 400))) aNil)))) (bVar 8)))) (cst (.int 3)))) [10]))) sNext) (sSeq (sIf (b2 fEq (bVar 8) (cst (.int 2))) (sSet 1 (eLst (aCons (eB (b2 fSub (b2 fSub (b2 fPow (cst (.int 10)) (cst (.int 12))) (cst (.int 1))) (b2 fMod (bVar 4) (cst (.int 3))))) (aCons (eB (b2 fAdd (b2 fSub (cst (.int 1)) (b2 fPow (cst (.int 10)) (cst (.int 12)))) (b2 fMod (bVar 5) (cst (.int 3))))) (aCons (eB (cst (.int 0))) (aCons (eB (b1 fNeg (cst (.int 1)))) aNil)))))) sNext) (sSeq (sIf (b2 fEq (bVar 3) (cst (.int 6))) (sSeq (sSet 9 (eCallN 2 F_law_digits (aCons (eB (b2 fAdd (bVar 0) (cst (.int 1)))) (aCons (eRep (eLst (aCons (eB (b2 fPow (cst (.int 10)) (cst (.int 12)))) aNil)) (b2 fAdd (cst (.int 1)) (b2 fMod (bVar 4) (cst (.int 36))))) aNil)))) (sRet (eCatT (eTup (aCons (eB (cst (.str "begin"))) (aCons (eIx (bVar 1) (cst (.int 0))) (aCons (eIx (bVar 1) (cst (.int 1))) aNil)))) (eTupL (bVar 9))))) sNext) (sSeq (sSet 2 (eIx (bE (eLst (aCons (eB (cst (.str "push"))) (aCons (eB (cst (.str "pull"))) (aCons (eB (cst (.str "burst"))) (aCons (eB (cst (.str "part"))) (aCons (eB (cst (.str "blow"))) (aCons (eB (cst (.str "wait"))) aNil)))))))) (bVar 3))) (sRet (eCatT (eTup (aCons (eVar 2) aNil)) (eTupL (bE (eSlice (bVar 1) oNone (oInt (bE (eIx (bE (eLst (aCons (eB (cst (.int 1))) (aCons (eB (cst (.int 1))) (aCons (eB (cst (.int 1))) (aCons (eB (cst (.int 4))) (aCons (eB (cst (.int 3))) (aCons (eB (cst (.int 2))) aNil)))))))) (bVar 3))))))))))))))
theorem sc_law_order_drawn : FnScope ["_law_cell_here", "_law_numbers", "_law_name", "_law_kind", "_law_a", "_law_b", "_law_c", "_law_d", "_law_wide", "_law_more", "_law_number"] ["_law_cell_here"] (defScope st_law_order_drawn) := ⟨rfl, rfl, rfl, by decide +kernel, rfl, by decide +kernel, by decide +kernel⟩
theorem ok_law_order_drawn {P : Program} {w : World} {K : PySem.W.Frag} {mg : Str → Option Value} {base : Heap} {fn : Addr} {fd : FuncData} {F_law_digits : List D → Option RV} {Fn : List D → Option RV} (Fu : Fun K "_law_order_drawn" "_law_order_drawn" st_law_order_drawn fn fd) (mf : mg "_law_order_drawn" = some (.ref fn)) (bf : Binds K fd ["_law_cell_here"] []) (C_law_digits : Cal P w K mg base 2 "_law_digits" 2 F_law_digits) (b_tuple : mg "tuple" = none)
    (hF : ∀ ds r, Fn ds = some r → ∃ n, fnD 11 (S_law_order_drawn F_law_digits) n ds = some r) : Cal P w K mg base 3 "_law_order_drawn" 1 Fn := by
  have nd := sc_law_order_drawn.nd
  exact Cal.mk Fu mf bf sc_law_order_drawn (by decide) hF fun cdv A outer s0 H E hr => css_cons (cs_asg (ce_callC C_law_digits hr (by decide) rfl (ca_cons (ce_var (pv 0)) (ca_cons (ce_lst (ca_cons (ce_b cb_int) (ca_cons (ce_b (cb_pow cb_int cb_int)) (ca_cons (ce_b (cb_pow cb_int cb_int)) (ca_cons (ce_b (cb_pow cb_int cb_int)) (ca_cons (ce_b (cb_pow cb_int cb_int)) (ca_cons (ce_b cb_int) ca_nil))))))) ca_nil))) (pg_seq (t := gsAll [3, 4, 5, 6, 7, 8]) rfl (pgs_cons (pg_name (i := 3) nd rfl (by first | exact Or.inl rfl | exact Or.inr rfl)) (pgs_cons (pg_name (i := 4) nd rfl (by first | exact Or.inl rfl | exact Or.inr rfl)) (pgs_cons (pg_name (i := 5) nd rfl (by first | exact Or.inl rfl | exact Or.inr rfl)) (pgs_cons (pg_name (i := 6) nd rfl (by first | exact Or.inl rfl | exact Or.inr rfl)) (pgs_cons (pg_name (i := 7) nd rfl (by first | exact Or.inl rfl | exact Or.inr rfl)) (pgs_cons (pg_name (i := 8) nd rfl (by first | exact Or.inl rfl | exact Or.inr rfl)) pgs_nil))))))) (tg_seq rfl)) (css_cons (cs_set (i := 1) nd rfl (by first | exact Or.inl rfl | exact Or.inr rfl) (ce_lst (ca_cons (ce_var (pv 4)) (ca_cons (ce_var (pv 5)) (ca_cons (ce_var (pv 6)) (ca_cons (ce_var (pv 7)) ca_nil)))))) (css_cons (cs_if (ct_lt (cb_var (pv 8)) cb_int) (css_one (cs_frz 1 (cs_setLcV (i := 1) (own := [("_law_number", 10)]) (g := gName 10) rfl nd rfl rfl (sw_true rfl rfl rfl (by decide +kernel)) (pv 1) (blkOk_by (own := [("_law_number", 10)]) (N := ["_law_cell_here", "_law_numbers", "_law_name", "_law_kind", "_law_a", "_law_b", "_law_c", "_law_d", "_law_wide", "_law_more", "_law_number"]) (sc := defScope st_law_order_drawn) (by decide +kernel)) (fun _ _ _ _ _ => pg_name (i := 10) nd rfl (by first | exact Or.inl rfl | exact Or.inr rfl)) (te_name (by decide)) (fun _ _ _ _ _ => pts_yes) (fun _ _ _ _ _ => ce_b (cb_sub (cb_mod (cb_var (pv 10)) (cb_e (ce_ix (hu_of hr) (cb_e (ce_lst (ca_cons (ce_b cb_int) (ca_cons (ce_b cb_int) ca_nil)))) (cb_var (pv 8)) (fun _ _ => rfl)))) cb_int))))) css_nil) (css_cons (cs_if (ct_eq hr.units (cb_var (pv 8)) cb_int) (css_one (cs_set (i := 1) nd rfl (by first | exact Or.inl rfl | exact Or.inr rfl) (ce_lst (ca_cons (ce_b (cb_sub (cb_sub (cb_pow cb_int cb_int) cb_int) (cb_mod (cb_var (pv 4)) cb_int))) (ca_cons (ce_b (cb_add (cb_sub cb_int (cb_pow cb_int cb_int)) (cb_mod (cb_var (pv 5)) cb_int))) (ca_cons (ce_b cb_int) (ca_cons (ce_b (cb_neg cb_int)) ca_nil))))))) css_nil) (css_cons (cs_if (ct_eq hr.units (cb_var (pv 3)) cb_int) (css_cons (cs_set (i := 9) nd rfl (by first | exact Or.inl rfl | exact Or.inr rfl) (ce_callC C_law_digits hr (by decide) rfl (ca_cons (ce_b (cb_add (cb_var (pv 0)) cb_int)) (ca_cons (ce_rep (ce_lst (ca_cons (ce_b (cb_pow cb_int cb_int)) ca_nil)) (cb_add cb_int (cb_mod (cb_var (pv 4)) cb_int))) ca_nil)))) (css_one (cs_ret (ce_catT (ce_tup (ca_cons (ce_b cb_str) (ca_cons (ce_ix (hu_of hr) (cb_var (pv 1)) cb_int (fun _ _ => rfl)) (ca_cons (ce_ix (hu_of hr) (cb_var (pv 1)) cb_int (fun _ _ => rfl)) ca_nil)))) (ce_tupL rfl b_tuple (cb_var (pv 9))))))) css_nil) (css_cons (cs_set (i := 2) nd rfl (by first | exact Or.inl rfl | exact Or.inr rfl) (ce_ix (hu_of hr) (cb_e (ce_lst (ca_cons (ce_b cb_str) (ca_cons (ce_b cb_str) (ca_cons (ce_b cb_str) (ca_cons (ce_b cb_str) (ca_cons (ce_b cb_str) (ca_cons (ce_b cb_str) ca_nil)))))))) (cb_var (pv 3)) (fun _ _ => rfl))) (css_one (cs_ret (ce_catT (ce_tup (ca_cons (ce_var (pv 2)) ca_nil)) (ce_tupL rfl b_tuple (cb_e (ce_slice (cb_var (pv 1)) co_none (co_int (cb_e (ce_ix (hu_of hr) (cb_e (ce_lst (ca_cons (ce_b cb_int) (ca_cons (ce_b cb_int) (ca_cons (ce_b cb_int) (ca_cons (ce_b cb_int) (ca_cons (ce_b cb_int) (ca_cons (ce_b cb_int) ca_nil)))))))) (cb_var (pv 3)) (fun _ _ => rfl)))))))))))))))
abbrev st_law_due_text : Stmt := top 17
def S_law_due_text : SX := sSeq (sSet 1 (eIx (bVar 0) (cst (.int 0)))) (sSeq (sFor (srcT (eSlice (bVar 0) (oInt (cst (.int 1))) oNone)) (gdName 2) (sSet 1 (eB (b2 fAdd (b2 fAdd (bVar 1) (cst (.str " "))) (bn fStr (abCons (bVar 2) aNil)))))) (sRetV 1))
theorem sc_law_due_text : FnScope ["_law_order", "_law_found", "_law_number"] ["_law_order"] (defScope st_law_due_text) := ⟨rfl, rfl, rfl, by decide +kernel, rfl, by decide +kernel, by decide +kernel⟩
theorem ok_law_due_text {P : Program} {w : World} {K : PySem.W.Frag} {mg : Str → Option Value} {base : Heap} {fn : Addr} {fd : FuncData} {Fn : List D → Option RV} (Fu : Fun K "_law_due_text" "_law_due_text" st_law_due_text fn fd) (mf : mg "_law_due_text" = some (.ref fn)) (bf : Binds K fd ["_law_order"] []) (b_str : mg "str" = none)
    (hF : ∀ ds r, Fn ds = some r → ∃ n, fnD 3 S_law_due_text n ds = some r) : Cal P w K mg base 1 "_law_due_text" 1 Fn := by
  have nd := sc_law_due_text.nd
  exact Cal.mk Fu mf bf sc_law_due_text (by decide) hF fun cdv A outer s0 H E hr => css_cons (cs_set (i := 1) nd rfl (by first | exact Or.inl rfl | exact Or.inr rfl) (ce_ix (hu_of hr) (cb_var (pv 0)) cb_int (fun _ _ => rfl))) (css_cons (cs_for PassesOwn.never rfl (pi_tup (ce_slice (cb_var (pv 0)) (co_int cb_int) co_none)) pix_tup (pg_name (i := 2) nd rfl (by first | exact Or.inl rfl | exact Or.inr rfl)) tg_name (css_one (cs_set (i := 1) nd rfl (by first | exact Or.inl rfl | exact Or.inr rfl) (ce_b (cb_add (cb_add (cb_var (pv 1)) cb_str) (cb_strI rfl b_str (cab_cons (cb_var (pv 2)) cab_nil))))))) (css_one (cs_retV (pv 1))))
abbrev st_law_whole : Stmt := top 18
def S_law_whole : SX := sRet (eB (bAnd (b1 (fIs "int") (bVar 0)) (bNot (b1 (fIs "bool") (bVar 0)))))
theorem sc_law_whole : FnScope ["_law_thing"] ["_law_thing"] (defScope st_law_whole) := ⟨rfl, rfl, rfl, by decide +kernel, rfl, by decide +kernel, by decide +kernel⟩
theorem ok_law_whole {P : Program} {w : World} {K : PySem.W.Frag} {mg : Str → Option Value} {base : Heap} {fn : Addr} {fd : FuncData} {Fn : List D → Option RV} (Fu : Fun K "_law_whole" "_law_whole" st_law_whole fn fd) (mf : mg "_law_whole" = some (.ref fn)) (bf : Binds K fd ["_law_thing"] []) (b_isinstance : mg "isinstance" = none) (b_int : mg "int" = none) (b_bool : mg "bool" = none)
    (hF : ∀ ds r, Fn ds = some r → ∃ n, fnD 1 S_law_whole n ds = some r) : Cal P w K mg base 1 "_law_whole" 1 Fn := by
  have nd := sc_law_whole.nd
  exact Cal.mk Fu mf bf sc_law_whole (by decide) hF fun cdv A outer s0 H E hr => css_one (cs_ret (ce_b (cb_and (cb_isi rfl b_isinstance rfl b_int (by decide +kernel) (cb_var (pv 0))) (cb_one (cb_not (cb_isi rfl b_isinstance rfl b_bool (by decide +kernel) (cb_var (pv 0))))))))
abbrev st_law_is_order : Stmt := top 19
def S_law_is_order (F_law_whole : List D → Option RV) : SX := sSeq (sIf (bOr (bNot (b1 (fIs "tuple") (bVar 0))) (bOr (b2 fNe (bn fLen (abCons (bVar 0) aNil)) (bn fLen (abCons (bVar 1) aNil))) (bNot (b1 (fIs "str") (bE (eIx (bVar 0) (cst (.int 0)))))))) (sRet (eB (cst (.bl false)))) sNext) (sRet (eB (bAnd (bn fAll (abCons (bE (eLc (srcT (eSlice (bVar 0) (oInt (cst (.int 1))) oNone)) (gdName 2) (cst (.bl true)) (eCallN 1 F_law_whole (aCons (eVar 2) aNil)) [2])) aNil)) (b2 fEq (bVar 0) (bVar 1)))))
theorem sc_law_is_order : FnScope ["_law_found", "_law_due", "_law_part"] ["_law_found", "_law_due"] (defScope st_law_is_order) := ⟨rfl, rfl, rfl, by decide +kernel, rfl, by decide +kernel, by decide +kernel⟩
theorem ok_law_is_order {P : Program} {w : World} {K : PySem.W.Frag} {mg : Str → Option Value} {base : Heap} {fn : Addr} {fd : FuncData} {F_law_whole : List D → Option RV} {Fn : List D → Option RV} (Fu : Fun K "_law_is_order" "_law_is_order" st_law_is_order fn fd) (mf : mg "_law_is_order" = some (.ref fn)) (bf : Binds K fd ["_law_found", "_law_due"] []) (C_law_whole : Cal P w K mg base 1 "_law_whole" 1 F_law_whole) (b_isinstance : mg "isinstance" = none) (b_tuple : mg "tuple" = none) (b_len : mg "len" = none) (b_str : mg "str" = none) (b_all : mg "all" = none)
    (hF : ∀ ds r, Fn ds = some r → ∃ n, fnD 3 (S_law_is_order F_law_whole) n ds = some r) : Cal P w K mg base 2 "_law_is_order" 2 Fn := by
  have nd := sc_law_is_order.nd
  exact Cal.mk Fu mf bf sc_law_is_order (by decide) hF fun cdv A outer s0 H E hr => css_cons (cs_if (PW.pt (cw_or (ct_not (ct_val (cb_isi rfl b_isinstance rfl b_tuple (by decide +kernel) (cb_var (pv 0))))) (cw_or (ct_ne hr.units (cb_len rfl b_len (cab_cons (cb_var (pv 0)) cab_nil)) (cb_len rfl b_len (cab_cons (cb_var (pv 1)) cab_nil))) (cw_or1 (ct_not (ct_val (cb_isi rfl b_isinstance rfl b_str (by decide +kernel) (cb_e (ce_ix (hu_of hr) (cb_var (pv 0)) cb_int (fun _ _ => rfl)))))))))) (css_one (cs_ret (ce_b cb_bl))) css_nil) (css_one (cs_ret (ce_b (cb_and (cb_all rfl rfl b_all (cab_cons (cb_e (ce_lc (own := [("_law_part", 2)]) (g := gName 2) rfl nd (pi_tup (ce_slice (cb_var (pv 0)) (co_int cb_int) co_none)) pix_tup (blkOk_by (own := [("_law_part", 2)]) (N := ["_law_found", "_law_due", "_law_part"]) (sc := defScope st_law_is_order) (by decide +kernel)) (fun _ _ _ _ _ => pg_name (i := 2) nd rfl (by first | exact Or.inl rfl | exact Or.inr rfl)) (te_name (by decide)) (fun _ _ _ _ _ => pts_yes) (fun _ _ _ _ _ => ce_callC C_law_whole hr (by decide) rfl (ca_cons (ce_var (pv 2)) ca_nil)))) cab_nil)) (cb_one (cb_eq hr.units (cb_var (pv 0)) (cb_var (pv 1))))))))
abbrev st_law : Stmt := top 20
def T_law_4 (F_law_digits : List D → Option RV) (F_law_cell : List D → Option RV) (F_law_order_drawn : List D → Option RV) (F_law_due_text : List D → Option RV) (F_shown : List D → Option RV) (F_law_is_order : List D → Option RV) (F_read : List D → Option RV) : SX := sRet (eB (cst (.bl true)))
def T_law_3 (F_law_digits : List D → Option RV) (F_law_cell : List D → Option RV) (F_law_order_drawn : List D → Option RV) (F_law_due_text : List D → Option RV) (F_shown : List D → Option RV) (F_law_is_order : List D → Option RV) (F_read : List D → Option RV) : SX := sSeq (sFrz 2 (sForV 2 (gdName 3) (sSeq (sSet 4 (eCallN 1 F_law_due_text (aCons (eVar 3) aNil))) (sSeq (sSet 5 (eCallN 1 F_shown (aCons (eVar 3) aNil))) (sIf (bOr (bNot (b1 (fIs "str") (bVar 5))) (bOr (b2 fNe (bVar 5) (bVar 4)) (bNot (bE (eCallN 2 F_law_is_order (aCons (eCallB 1 F_read (gV 4 gNone)) (aCons (eVar 3) aNil))))))) (sRet (eB (cst (.bl false)))) sNext))))) (T_law_4 F_law_digits F_law_cell F_law_order_drawn F_law_due_text F_shown F_law_is_order F_read)
def T_law_2 (F_law_digits : List D → Option RV) (F_law_cell : List D → Option RV) (F_law_order_drawn : List D → Option RV) (F_law_due_text : List D → Option RV) (F_shown : List D → Option RV) (F_law_is_order : List D → Option RV) (F_read : List D → Option RV) : SX := sSeq (sAppend 2 (eCatT (eTup (aCons (eB (cst (.str "begin"))) (aCons (eIx (bVar 1) (cst (.int 1))) (aCons (eB (cst (.int 7))) aNil)))) (eTupL (bE (eSlice (bVar 1) (oInt (cst (.int 2))) (oInt (b2 fAdd (cst (.int 39)) (bE (eIx (bVar 1) (cst (.int 0))))))))))) (T_law_3 F_law_digits F_law_cell F_law_order_drawn F_law_due_text F_shown F_law_is_order F_read)
def T_law_1 (F_law_digits : List D → Option RV) (F_law_cell : List D → Option RV) (F_law_order_drawn : List D → Option RV) (F_law_due_text : List D → Option RV) (F_shown : List D → Option RV) (F_law_is_order : List D → Option RV) (F_read : List D → Option RV) : SX := sSeq (sSet 2 (eLc (srcR (abCons (cst (.int 5)) aNil)) (gdName 6) (cst (.bl true)) (eCallN 1 F_law_order_drawn (aCons (eCallN 2 F_law_cell (aCons (eVar 0) (aCons (eVar 6) aNil))) aNil)) [6])) (T_law_2 F_law_digits F_law_cell F_law_order_drawn F_law_due_text F_shown F_law_is_order F_read)
def T_law_0 (F_law_digits : List D → Option RV) (F_law_cell : List D → Option RV) (F_law_order_drawn : List D → Option RV) (F_law_due_text : List D → Option RV) (F_shown : List D → Option RV) (F_law_is_order : List D → Option RV) (F_read : List D → Option RV) : SX := sSeq (sSet 1 (eCallN 2 F_law_digits (aCons (eCallN 2 F_law_cell (aCons (eVar 0) (aCons (eB (cst (.int 6))) aNil))) (aCons (eCat (bE (eLst (aCons (eB (cst (.int 7))) (aCons (eB (cst (.int 1000))) aNil)))) (bE (eRep (eLst (aCons (eB (b2 fPow (cst (.int 10)) (cst (.int 12)))) aNil)) (cst (.int 43))))) aNil)))) (T_law_1 F_law_digits F_law_cell F_law_order_drawn F_law_due_text F_shown F_law_is_order F_read)
def S_law (F_law_digits : List D → Option RV) (F_law_cell : List D → Option RV) (F_law_order_drawn : List D → Option RV) (F_law_due_text : List D → Option RV) (F_shown : List D → Option RV) (F_law_is_order : List D → Option RV) (F_read : List D → Option RV) : SX := T_law_0 F_law_digits F_law_cell F_law_order_drawn F_law_due_text F_shown F_law_is_order F_read
theorem sc_law : FnScope ["_law_script", "_law_more", "_law_orders", "_law_order", "_law_due", "_law_told", "_law_k"] ["_law_script"] (defScope st_law) := ⟨rfl, rfl, rfl, by decide +kernel, rfl, by decide +kernel, by decide +kernel⟩
theorem ok_law {P : Program} {w : World} {K : PySem.W.Frag} {mg : Str → Option Value} {base : Heap} {fn : Addr} {fd : FuncData} {F_law_digits : List D → Option RV} {F_law_cell : List D → Option RV} {F_law_order_drawn : List D → Option RV} {F_law_due_text : List D → Option RV} {F_shown : List D → Option RV} {F_law_is_order : List D → Option RV} {F_read : List D → Option RV} {Fn : List D → Option RV} (Fu : Fun K "law" "law" st_law fn fd) (C_law_digits : Cal P w K mg base 2 "_law_digits" 2 F_law_digits) (C_law_cell : Cal P w K mg base 1 "_law_cell" 2 F_law_cell) (C_law_order_drawn : Cal P w K mg base 3 "_law_order_drawn" 1 F_law_order_drawn) (C_law_due_text : Cal P w K mg base 1 "_law_due_text" 1 F_law_due_text) (C_shown : Cal P w K mg base 1 "shown" 1 F_shown) (C_law_is_order : Cal P w K mg base 2 "_law_is_order" 2 F_law_is_order) (C_read : Cal P w K mg base 2 "read" 1 F_read) (b_range : mg "range" = none) (b_tuple : mg "tuple" = none) (b_isinstance : mg "isinstance" = none) (b_str : mg "str" = none)
    (hF : ∀ ds r, Fn ds = some r → ∃ n, fnD 7 (S_law F_law_digits F_law_cell F_law_order_drawn F_law_due_text F_shown F_law_is_order F_read) n ds = some r) : FnOk P w K mg base CX0 4 fn fd ["_law_script"] (SpF K 1 Fn) := by
  have nd := sc_law.nd
  exact fn_ok Fu sc_law (by decide) hF fun cdv A outer s0 H E hr => css_cons (cs_set (i := 1) nd rfl (by first | exact Or.inl rfl | exact Or.inr rfl) (ce_callC C_law_digits hr (by decide) rfl (ca_cons (ce_callC C_law_cell hr (by decide) rfl (ca_cons (ce_var (pv 0)) (ca_cons (ce_b cb_int) ca_nil))) (ca_cons (ce_cat (cb_e (ce_lst (ca_cons (ce_b cb_int) (ca_cons (ce_b cb_int) ca_nil)))) (cb_e (ce_rep (ce_lst (ca_cons (ce_b (cb_pow cb_int cb_int)) ca_nil)) cb_int))) ca_nil)))) (css_cons (cs_setLc (i := 2) (own := [("_law_k", 6)]) (g := gName 6) rfl nd rfl rfl (sw_true rfl rfl rfl (by decide +kernel)) (pi_range1 rfl b_range (cab_cons cb_int cab_nil)) pix_range (blkOk_by (own := [("_law_k", 6)]) (N := ["_law_script", "_law_more", "_law_orders", "_law_order", "_law_due", "_law_told", "_law_k"]) (sc := defScope st_law) (by decide +kernel)) (fun _ _ _ _ _ => pg_name (i := 6) nd rfl (by first | exact Or.inl rfl | exact Or.inr rfl)) (te_name (by decide)) (fun _ _ _ _ _ => pts_yes) (fun _ _ _ _ _ => ce_callC C_law_order_drawn hr (by decide) rfl (ca_cons (ce_callC C_law_cell hr (by decide) rfl (ca_cons (ce_var (pv 0)) (ca_cons (ce_var (pv 6)) ca_nil))) ca_nil))) (css_cons (cs_append (pv 2) (ce_catT (ce_tup (ca_cons (ce_b cb_str) (ca_cons (ce_ix (hu_of hr) (cb_var (pv 1)) cb_int (fun _ _ => rfl)) (ca_cons (ce_b cb_int) ca_nil)))) (ce_tupL rfl b_tuple (cb_e (ce_slice (cb_var (pv 1)) (co_int cb_int) (co_int (cb_add cb_int (cb_e (ce_ix (hu_of hr) (cb_var (pv 1)) cb_int (fun _ _ => rfl))))))))) (pe_bm PySem.F.plainAttrs_list PySem.F.slot_list_append PySem.F.type_list_append mt_append (pv 2) (pa_cons (ce_catT (ce_tup (ca_cons (ce_b cb_str) (ca_cons (ce_ix (hu_of hr) (cb_var (pv 1)) cb_int (fun _ _ => rfl)) (ca_cons (ce_b cb_int) ca_nil)))) (ce_tupL rfl b_tuple (cb_e (ce_slice (cb_var (pv 1)) (co_int cb_int) (co_int (cb_add cb_int (cb_e (ce_ix (hu_of hr) (cb_var (pv 1)) cb_int (fun _ _ => rfl))))))))) pa_nil))) (css_cons (cs_frz 2 (cs_forV PassesOwn.never rfl (pv 2) (pg_name (i := 3) nd rfl (by first | exact Or.inl rfl | exact Or.inr rfl)) tg_name (css_cons (cs_set (i := 4) nd rfl (by first | exact Or.inl rfl | exact Or.inr rfl) (ce_callC C_law_due_text hr (by decide) rfl (ca_cons (ce_var (pv 3)) ca_nil))) (css_cons (cs_set (i := 5) nd rfl (by first | exact Or.inl rfl | exact Or.inr rfl) (ce_callC C_shown hr (by decide) rfl (ca_cons (ce_var (pv 3)) ca_nil))) (css_one (cs_if (PW.pt (cw_or (ct_not (ct_val (cb_isi rfl b_isinstance rfl b_str (by decide +kernel) (cb_var (pv 5))))) (cw_or (ct_ne hr.units (cb_var (pv 5)) (cb_var (pv 4))) (cw_or1 (ct_not (ct_val (cb_e (ce_callC C_law_is_order hr (by decide) rfl (ca_cons (ce_callB C_read hr (by decide) rfl (cg_v (pv 4) cg_nil)) (ca_cons (ce_var (pv 3)) ca_nil)))))))))) (css_one (cs_ret (ce_b cb_bl))) css_nil)))))) (css_one (cs_ret (ce_b cb_bl))))))
end
end Lk57

set_option linter.all false
set_option Elab.async false
set_option maxRecDepth 100000
set_option maxHeartbeats 1000000
noncomputable section
namespace FT
open PySem L2 TL FW
theorem lcGo_all {gd : D → En → Option En} {ex : EX} {env : En} {ds : List D} {w : D → D} (hh : ∀ d ∈ ds, ∃ e1, gd d env = some e1 ∧ ∃ b, ex e1 = some ⟨w d, b⟩) : lcGo gd (cst (.bl true)) ex env ds = some (ds.map w) := by
  have := lcGo_of (gd := gd) (x := cst (.bl true)) (ex := ex) (env := env) (ds := ds) (p := fun _ => true) (w := w) fun d hd => by
    obtain ⟨e1, h1, b, h2⟩ := hh d hd
    exact ⟨e1, h1, rfl, fun _ => ⟨b, h2⟩⟩
  rw [this, List.filter_eq_self.mpr fun _ _ => rfl]
theorem eLc_all {src : AX} {gd : D → En → Option En} {ex : EX} {env : En} {vs : List Nat} {ds : List D} {w : D → D} (h0 : src env = some ds) (hl : ds.length ≤ lim) (hh : ∀ d ∈ ds, ∃ e1, gd d (wipeE env vs) = some e1 ∧ ∃ b, ex e1 = some ⟨w d, b⟩) : eLc src gd (cst (.bl true)) ex vs env = some ⟨.lst (ds.map w), true⟩ := by
  rw [eLc_a, h0]
  simp only [Option.bind_some, lcD]
  rw [if_pos hl, lcGo_all hh]
  rfl
theorem eLcV_all {i : Nat} {d0 : D} {gd : D → En → Option En} {ex : EX} {env : En} {vs : List Nat} {ds : List D} {w : D → D} (h1 : env[i]? = some (.pu d0)) (h0 : itemsD d0 = some ds) (hl : ds.length ≤ lim) (hh : ∀ d ∈ ds, ∃ e1, gd d (wipeE env vs) = some e1 ∧ ∃ b, ex e1 = some ⟨w d, b⟩) : eLcV i gd (cst (.bl true)) ex vs env = some ⟨.lst (ds.map w), true⟩ := by
  rw [eLcV_a, h1]
  simp only [h0, Option.bind_some, lcD]
  rw [if_pos hl, lcGo_all hh]
  rfl
theorem allT {α : Type} (l : List α) : fAll [.lst (l.map fun _ => D.bl true)] = some (.bl true) := by
  have h := blsD_map (l := l) (p := fun _ => true)
  simp [fAll, h, fAll0]
/-! ## the text of a number -/
def sI (n : Int) : Str := Str.ofString (toString n)
def sgn (n : Int) : List Nat := if n < 0 then 45 :: numL n.natAbs else numL n.natAbs
theorem tl_sI (n : Int) : tl (sI n) = sgn n := by
  unfold sI sgn
  cases n with
  | ofNat m =>
    rw [if_neg (by simp)]
    exact tl_num m
  | negSucc m =>
    rw [if_pos (by omega), show toString (Int.negSucc m) = "-" ++ toString (((m + 1 : Nat) : Int)) from rfl, tl_ofString, String.toList_append, List.map_append, ← tl_ofString (toString (((m + 1 : Nat) : Int))), tl_num]
    rfl
theorem numL_head : ∀ n : Nat, n ≠ 0 → (numL n).head? ≠ some 48 := by
  intro n
  induction n using Nat.strongRecOn with
  | _ n ih =>
    intro h0
    by_cases h : n < 10
    · rw [numL_lt h]
      simp
      omega
    · rw [numL_step (by omega)]
      have := ih (n / 10) (by omega) (by omega)
      cases q : numL (n / 10) with
      | nil => exact absurd q (numL_ne _)
      | cons c l => rw [q] at this; simpa using this
theorem numL_zero : numL 0 = [48] := numL_lt (by decide)
theorem numL_l {n : Nat} (h : n < 1000000000000) : (numL n).length ≤ 12 := numL_len (by decide) (by omega)
theorem sgn_l {n : Int} (h : n.natAbs < 1000000000000) : (sgn n).length ≤ 13 := by
  unfold sgn
  have := numL_l h
  split <;> simp <;> omega
theorem sI_len {n : Int} (h : n.natAbs < 1000000000000) : (sI n).length ≤ 13 := by
  rw [len_tl, tl_sI]
  exact sgn_l h
theorem reads {n : Int} (h : n.natAbs < 1000000000000) : PySem.intText? (sI n) = some n := by
  have hl := numL_l h
  by_cases h0 : n < 0
  · have e : tl (sI n) = 45 :: numL n.natAbs := by rw [tl_sI]; unfold sgn; rw [if_pos h0]
    rw [intText_neg e (numL_digits _) (numL_ne _) (by rw [len_tl, e]; simp; omega), numL_val]
    congr 1
    omega
  · obtain ⟨m, rfl⟩ : ∃ m : Nat, n = m := ⟨n.natAbs, by omega⟩
    exact int_num (by simp at hl; omega)
theorem no_blank {n : Int} : 32 ∉ tl (sI n) := by
  rw [tl_sI]
  unfold sgn
  have h := numL_free (n := n.natAbs) (s := 32) (.inl (by decide))
  split
  · simp [h]
  · exact h
/-! ## a word and numbers as a text -/
def SPC : Str := Str.ofString " "
theorem tl_SPC : tl SPC = [32] := by rw [SPC, tl_ofString]; rfl
def txt (w : Str) (ns : List Int) : Str := ns.foldl (fun a n => a ++ SPC ++ sI n) w
theorem join_txt (w : Str) (ns : List Int) : Txt.join SPC (w :: ns.map sI) = txt w ns := by
  show Builtin.Str.glued SPC (w :: ns.map sI) = _
  unfold Builtin.Str.glued
  simp only [List.headD_cons, List.drop_succ_cons, List.drop_zero]
  have : ∀ (ns : List Int) (a : Str), (⟨List.foldl (fun acc p => acc ++ SPC.cps ++ p.cps) a.cps (ns.map sI)⟩ : Str) = txt a ns := by
    intro ns
    induction ns with
    | nil => intro a; rfl
    | cons n ns ih =>
      intro a
      have h := ih (a ++ SPC ++ sI n)
      rw [Str.cps_append, Str.cps_append] at h
      exact h
  exact this ns w
theorem split_txt {w : Str} (hw : 32 ∉ tl w) (ns : List Int) : Txt.split (txt w ns) SPC = w :: ns.map sI := by
  rw [← join_txt]
  refine split_join (s := 32) (S := []) tl_SPC (by decide +kernel) (by simp) fun p hp => ?_
  rcases List.mem_cons.mp hp with rfl | hp
  · exact hw
  · obtain ⟨n, _, rfl⟩ := List.mem_map.mp hp
    exact no_blank
theorem txt_len : ∀ (ns : List Int) (w : Str), (∀ n ∈ ns, n.natAbs < 1000000000000) → (txt w ns).length ≤ w.length + 14 * ns.length
  | [], w, _ => by simp [txt]
  | n :: ns, w, h => by
    have ih := txt_len ns (w ++ SPC ++ sI n) fun m hm => h m (List.mem_cons_of_mem _ hm)
    have h1 := sI_len (h n List.mem_cons_self)
    have h2 : (w ++ SPC ++ sI n).length = w.length + 1 + (sI n).length := by
      rw [len_tl, tl_append, tl_append, tl_SPC, len_tl w, len_tl (sI n)]
      simp
      omega
    have h3 : txt w (n :: ns) = txt (w ++ SPC ++ sI n) ns := rfl
    rw [h3]
    simp only [List.length_cons]
    omega
theorem sum_len : ∀ (ns : List Int), (∀ n ∈ ns, n.natAbs < 1000000000000) → ((ns.map sI).map (·.length)).sum ≤ 13 * ns.length
  | [], _ => by simp
  | n :: ns, h => by
    have ih := sum_len ns fun m hm => h m (List.mem_cons_of_mem _ hm)
    have h1 := sI_len (h n List.mem_cons_self)
    simp only [List.map_cons, List.sum_cons, List.length_cons]
    omega
/-! ## removeprefix of the minus -/
def MI : Str := Str.ofString "-"
theorem tl_MI : tl MI = [45] := by rw [MI, tl_ofString]; rfl
theorem rmp (n : Int) : tl (Txt.removeprefix (sI n) MI) = numL n.natAbs := by
  have hm : MI.length = 1 := by rw [len_tl, tl_MI]; rfl
  rw [PySem.StrLaws.removeprefix_eq, PySem.StrLaws.subAt_eq, hm, len_tl]
  show tl (if (decide (0 + 1 ≤ (tl (sI n)).length) && (((tl (sI n)).drop 0).take 1 == tl MI)) = true then (⟨(((tl (sI n)).drop 1).take ((tl (sI n)).length - 1)).toArray⟩ : Str) else sI n) = _
  rw [tl_MI, tl_sI]
  by_cases h0 : n < 0
  · have e : sgn n = 45 :: numL n.natAbs := by unfold sgn; rw [if_pos h0]
    rw [e, if_pos (by simp)]
    simp [tl]
  · have e : sgn n = numL n.natAbs := by unfold sgn; rw [if_neg h0]
    rw [if_neg, tl_sI, e]
    rw [e]
    intro hc
    rw [Bool.and_eq_true] at hc
    cases q : numL n.natAbs with
    | nil => exact numL_ne _ q
    | cons c l =>
      rw [q] at hc
      have h1 := hc.2
      simp at h1
      have := numL_digits n.natAbs c (by rw [q]; simp)
      omega
theorem rmp_len {n : Int} (h : n.natAbs < 1000000000000) : 1 ≤ (Txt.removeprefix (sI n) MI).length ∧ (Txt.removeprefix (sI n) MI).length ≤ 12 := by
  rw [len_tl, rmp]
  have h1 := numL_l h
  have h2 := numL_ne n.natAbs
  have h3 : (numL n.natAbs).length ≠ 0 := fun z => h2 (List.length_eq_zero_iff.mp z)
  omega
end FT
end

set_option linter.all false
set_option Elab.async false
set_option maxRecDepth 100000
set_option maxHeartbeats 4000000
/-! the meanings of the defs, as they are printed -/
noncomputable section
namespace FS
open PySem L2 FW
def S_require_end : SX := sIf (b2 fNotIn (bVar 1) (bVar 0)) sNever sNext
def F_require_end : List D → Option RV := fnD 2 S_require_end fuel
def S_corner (F_require_end : List D → Option RV) : SX := sSeq (sExpr (eCallN 2 F_require_end (aCons (eVar 0) (aCons (eVar 1) aNil)))) (sSeq (sSet 2 (eIx (bVar 0) (bVar 1))) (sRet (eTup (aCons (eVar 1) (aCons (eVar 2) (aCons (eIx (bVar 0) (bVar 2)) aNil))))))
def F_corner : List D → Option RV := fnD 3 (S_corner F_require_end) fuel
def S_join_corner : SX := sSeq (sDput 0 (bVar 1) (eVar 2)) (sSeq (sDput 0 (bVar 2) (eVar 3)) (sDput 0 (bVar 3) (eVar 1)))
def S_require_film : SX := sIf (b2 fNotIn (b2 fMul (cst (.int 2)) (bVar 1)) (bVar 0)) sNever sNext
def F_require_film : List D → Option RV := fnD 2 S_require_film fuel
def S_require_turning (F_require_film : List D → Option RV) (F_corner : List D → Option RV) : SX := sSeq (sExpr (eCallN 2 F_require_film (aCons (eVar 0) (aCons (eVar 1) aNil)))) (sIf (b2 fIn (b2 fAdd (b2 fMul (cst (.int 2)) (bVar 1)) (cst (.int 1))) (bE (eCallN 2 F_corner (aCons (eVar 0) (aCons (eB (b2 fMul (cst (.int 2)) (bVar 1))) aNil))))) sNever sNext)
def F_require_turning : List D → Option RV := fnD 2 (S_require_turning F_require_film F_corner) fuel
def S_pushed (F_require_turning : List D → Option RV) (F_corner : List D → Option RV) (F_join_corner : List D → Option D) : SX := sSeq (sExpr (eCallN 2 F_require_turning (aCons (eVar 0) (aCons (eVar 1) aNil)))) (sSeq (sAsg (eCallN 2 F_corner (aCons (eVar 0) (aCons (eB (b2 fMul (cst (.int 2)) (bVar 1))) aNil))) (gdSeq [3, 4, 5])) (sSeq (sAsg (eCallN 2 F_corner (aCons (eVar 0) (aCons (eB (b2 fAdd (b2 fMul (cst (.int 2)) (bVar 1)) (cst (.int 1)))) aNil))) (gdSeq [6, 7, 8])) (sSeq (sSet 2 (eFr fDict (abCons (bVar 0) aNil))) (sSeq (sCallM 2 4 F_join_corner (aCons (eVar 3) (aCons (eVar 5) (aCons (eVar 7) aNil)))) (sSeq (sCallM 2 4 F_join_corner (aCons (eVar 6) (aCons (eVar 8) (aCons (eVar 4) aNil)))) (sRetV 2))))))
def F_pushed : List D → Option RV := fnD 9 (S_pushed F_require_turning F_corner FW.F_join) fuel
def S_pulled (F_require_turning : List D → Option RV) (F_corner : List D → Option RV) (F_join_corner : List D → Option D) : SX := sSeq (sExpr (eCallN 2 F_require_turning (aCons (eVar 0) (aCons (eVar 1) aNil)))) (sSeq (sAsg (eCallN 2 F_corner (aCons (eVar 0) (aCons (eB (b2 fMul (cst (.int 2)) (bVar 1))) aNil))) (gdSeq [3, 4, 5])) (sSeq (sAsg (eCallN 2 F_corner (aCons (eVar 0) (aCons (eB (b2 fAdd (b2 fMul (cst (.int 2)) (bVar 1)) (cst (.int 1)))) aNil))) (gdSeq [6, 7, 8])) (sSeq (sSet 2 (eFr fDict (abCons (bVar 0) aNil))) (sSeq (sCallM 2 4 F_join_corner (aCons (eVar 3) (aCons (eVar 8) (aCons (eVar 4) aNil)))) (sSeq (sCallM 2 4 F_join_corner (aCons (eVar 6) (aCons (eVar 5) (aCons (eVar 7) aNil)))) (sRetV 2))))))
def F_pulled : List D → Option RV := fnD 9 (S_pulled F_require_turning F_corner FW.F_join) fuel
def S_law_seed : SX := sSeq (sIf (b2 fGe (bVar 0) (b2 fPow (cst (.int 10)) (cst (.int 18)))) (sRetV 0) sNext) (sSeq (sSet 1 (eB (b2 fMod (b2 fMul (b2 fMod (b2 fAdd (b2 fMul (bVar 0) (cst (.int 48271))) (cst (.int 7919))) (cst (.int 2147483647))) (cst (.int 16807))) (cst (.int 2147483629))))) (sSeq (sSet 2 (eB (b2 fMod (b2 fMul (b2 fMod (b2 fAdd (b2 fMul (bVar 0) (cst (.int 69621))) (cst (.int 104729))) (cst (.int 2147483587))) (cst (.int 40692))) (cst (.int 2147483399))))) (sRet (eB (b2 fAdd (b2 fMul (bVar 1) (cst (.int 2147483399))) (bVar 2))))))
def S_law_digits (F_law_seed : List D → Option RV) : SX := sSeq (sSet 2 (eCallN 1 F_law_seed (aCons (eVar 0) aNil))) (sSeq (sSet 3 (eLst aNil)) (sSeq (sFor (srcEn (eVar 1)) (gdSeq [4, 5]) (sSeq (sIf (b2 fLt (bVar 2) (bVar 5)) (sSet 2 (eCallN 1 F_law_seed (aCons (eB (b2 fAdd (b2 fAdd (bVar 2) (b2 fMul (cst (.int 131)) (bVar 4))) (b2 fMod (bVar 0) (cst (.int 1009))))) aNil))) sNext) (sSeq (sAppend 3 (eB (b2 fMod (bVar 2) (bVar 5)))) (sSet 2 (eB (b2 fDiv (bVar 2) (bVar 5))))))) (sRetV 3)))
def S_law_renumbered (F_law_digits : List D → Option RV) : SX := sSeq (sAsg (eCallN 2 F_law_digits (aCons (eVar 1) (aCons (eLst (aCons (eB (cst (.int 3))) (aCons (eB (cst (.int 498988))) (aCons (eB (cst (.int 5))) aNil)))) aNil))) (gdSeq [5, 6, 7])) (sSeq (sIf (b2 fEq (bVar 5) (cst (.int 0))) (sRetV 0) sNext) (sSeq (sSet 2 eDict) (sSeq (sForV 0 (gdName 3) (sSeq (sSet 8 (eB (b2 fMod (b2 fMul (b2 fDiv (bVar 3) (cst (.int 2))) (b2 fAdd (bVar 6) (cst (.int 1)))) (cst (.int 498989))))) (sDput 2 (bVar 3) (eB (b2 fAdd (b2 fMul (cst (.int 2)) (bVar 8)) (b2 fMod (b2 fAdd (bVar 3) (b2 fMod (b2 fDiv (b2 fAdd (bVar 8) (bVar 7)) (cst (.int 2))) (cst (.int 2)))) (cst (.int 2)))))))) (sSeq (sSet 4 eDict) (sSeq (sForV 0 (gdName 3) (sDput 4 (bE (eIx (bVar 2) (bVar 3))) (eIx (bVar 2) (bE (eIx (bVar 0) (bVar 3)))))) (sRetV 4))))))
def F_law_renumbered : List D → Option RV := fnD 9 (S_law_renumbered FA.F_digits) fuel
def S_law_cell : SX := sSeq (sIf (b2 fLt (bVar 1) (bn fLen (abCons (bVar 0) aNil))) (sRet (eIx (bVar 0) (bVar 1))) sNext) (sRet (eB (cst (.int 0))))
def S_law_seat : SX := sFor (srcR (abCons (cst (.int 3)) aNil)) (gdName 2) (sDput 0 (bE (eIx (bVar 1) (bVar 2))) (eIx (bVar 1) (b2 fMod (b2 fAdd (bVar 2) (cst (.int 1))) (cst (.int 3)))))
def S_law_comb (F_law_seat : List D → Option D) : SX := sSeq (sSet 2 eDict) (sSeq (sFor (srcR (abCons (b2 fMul (bVar 0) (bVar 1)) aNil)) (gdName 3) (sSeq (sPar 6 7 (aCons (eB (b2 fDiv (bVar 3) (bVar 1))) (aCons (eB (b2 fMod (bVar 3) (bVar 1))) aNil))) (sSeq (sSet 4 (eB (b2 fAdd (b2 fMul (bVar 6) (bVar 1)) (b2 fMod (b2 fSub (b2 fAdd (bVar 7) (bVar 1)) (cst (.int 1))) (bVar 1))))) (sSeq (sSet 5 (eB (b2 fAdd (b2 fMul (b2 fMod (b2 fSub (b2 fAdd (bVar 6) (bVar 0)) (cst (.int 1))) (bVar 0)) (bVar 1)) (bVar 7)))) (sSeq (sCallM 2 2 F_law_seat (aCons (eTup (aCons (eB (b2 fMul (cst (.int 6)) (bVar 3))) (aCons (eB (b2 fAdd (b2 fMul (cst (.int 6)) (bVar 3)) (cst (.int 2)))) (aCons (eB (b2 fAdd (b2 fMul (cst (.int 6)) (bVar 3)) (cst (.int 4)))) aNil)))) aNil)) (sCallM 2 2 F_law_seat (aCons (eTup (aCons (eB (b2 fAdd (b2 fMul (cst (.int 6)) (bVar 3)) (cst (.int 1)))) (aCons (eB (b2 fAdd (b2 fMul (cst (.int 6)) (bVar 4)) (cst (.int 3)))) (aCons (eB (b2 fAdd (b2 fMul (cst (.int 6)) (bVar 5)) (cst (.int 5)))) aNil)))) aNil))))))) (sRetV 2))
def S_law_other : SX := sSeq (sIf (b2 fEq (b2 fMod (bVar 0) (cst (.int 2))) (cst (.int 0))) (sRet (eB (b2 fAdd (bVar 0) (cst (.int 1))))) sNext) (sRet (eB (b2 fSub (bVar 0) (cst (.int 1)))))
def S_law_rim (F_law_other : List D → Option RV) : SX := sSeq (sSet 2 (eLst (aCons (eVar 1) aNil))) (sSeq (sFor (srcR (abCons (bn fLen (abCons (bVar 0) aNil)) aNil)) (gdName 3) (sSeq (sSet 4 (eIx (bVar 0) (bE (eCallN 1 F_law_other (aCons (eIx (bVar 2) (b1 fNeg (cst (.int 1)))) aNil))))) (sSeq (sIf (b2 fEq (bVar 4) (bVar 1)) (sRetV 2) sNext) (sAppend 2 (eVar 4))))) (sRetV 2))
def S_law_rims (F_law_rim : List D → Option RV) : SX := sSeq (sSet 1 (eLst aNil)) (sSeq (sSet 2 eDict) (sSeq (sFor (srcL (eFr fSorted (abCons (bE (eFr fList (abCons (bVar 0) aNil))) aNil))) (gdName 3) (sIf (b2 fNotIn (bVar 3) (bVar 2)) (sSeq (sAppend 1 (eCallN 2 F_law_rim (aCons (eVar 0) (aCons (eVar 3) aNil)))) (sFor (srcL (eIx (bVar 1) (b1 fNeg (cst (.int 1))))) (gdName 4) (sDput 2 (bVar 4) (eB (cst (.bl true)))))) sNext)) (sRetV 1)))
def F_law_rims : List D → Option RV := fnD 5 (S_law_rims FW.F_rim) fuel
def S_law_corner : SX := sRet (eTup (aCons (eVar 1) (aCons (eIx (bVar 0) (bVar 1)) (aCons (eIx (bVar 0) (bE (eIx (bVar 0) (bVar 1)))) aNil))))
def F_law_corner : List D → Option RV := fnD 2 S_law_corner fuel
def S_law_loop (F_law_corner : List D → Option RV) : SX := sRet (eB (b2 fIn (b2 fAdd (b2 fMul (cst (.int 2)) (bVar 1)) (cst (.int 1))) (bE (eCallN 2 F_law_corner (aCons (eVar 0) (aCons (eB (b2 fMul (cst (.int 2)) (bVar 1))) aNil))))))
def F_law_loop : List D → Option RV := fnD 2 (S_law_loop F_law_corner) fuel
def S_law_push (F_law_corner : List D → Option RV) (F_law_seat : List D → Option D) : SX := sSeq (sAsg (eCallN 2 F_law_corner (aCons (eVar 0) (aCons (eB (b2 fMul (cst (.int 2)) (bVar 1))) aNil))) (gdSeq [4, 5, 6])) (sSeq (sAsg (eCallN 2 F_law_corner (aCons (eVar 0) (aCons (eB (b2 fAdd (b2 fMul (cst (.int 2)) (bVar 1)) (cst (.int 1)))) aNil))) (gdSeq [7, 8, 9])) (sSeq (sSet 3 (eFr fDict (abCons (bVar 0) aNil))) (sSeq (sIf (bVar 2) (sSeq (sCallM 3 2 F_law_seat (aCons (eTup (aCons (eVar 4) (aCons (eVar 9) (aCons (eVar 5) aNil)))) aNil)) (sCallM 3 2 F_law_seat (aCons (eTup (aCons (eVar 7) (aCons (eVar 6) (aCons (eVar 8) aNil)))) aNil))) (sSeq (sCallM 3 2 F_law_seat (aCons (eTup (aCons (eVar 4) (aCons (eVar 6) (aCons (eVar 8) aNil)))) aNil)) (sCallM 3 2 F_law_seat (aCons (eTup (aCons (eVar 7) (aCons (eVar 9) (aCons (eVar 5) aNil)))) aNil)))) (sRetV 3))))
def F_law_push : List D → Option RV := fnD 10 (S_law_push F_law_corner FW.F_seat) fuel
def S_law_one_bubble (F_law_rim : List D → Option RV) : SX := sRet (eB (b2 fIn (b2 fAdd (b2 fMul (cst (.int 2)) (bVar 1)) (cst (.int 1))) (bE (eCallN 2 F_law_rim (aCons (eVar 0) (aCons (eB (b2 fMul (cst (.int 2)) (bVar 1))) aNil))))))
def F_law_one_bubble : List D → Option RV := fnD 2 (S_law_one_bubble FW.F_rim) fuel
def S_law_mended (F_law_corner : List D → Option RV) (F_law_other : List D → Option RV) : SX := sSeq (sSet 2 (eCallN 2 F_law_corner (aCons (eVar 0) (aCons (eVar 1) aNil)))) (sSeq (sPar 6 7 (aCons (eB (bn fMinS (abCons (bE (eSlice (bVar 2) (oInt (cst (.int 1))) oNone)) aNil))) (aCons (eB (bn fMaxS (abCons (bE (eSlice (bVar 2) (oInt (cst (.int 1))) oNone)) aNil))) aNil))) (sSeq (sSet 3 (eCallN 1 F_law_other (aCons (eVar 7) aNil))) (sSeq (sSet 4 eDict) (sSeq (sForV 0 (gdName 5) (sIf (b2 fNotIn (bVar 5) (bVar 2)) (sSeq (sSet 8 (eIx (bVar 0) (bVar 5))) (sSeq (sIf (b2 fEq (bVar 8) (bVar 3)) (sSet 8 (eVar 6)) sNext) (sIf (b2 fEq (bVar 5) (bVar 3)) (sDput 4 (bVar 6) (eVar 8)) (sDput 4 (bVar 5) (eVar 8))))) sNext)) (sRetV 4)))))
def F_law_mended : List D → Option RV := fnD 9 (S_law_mended F_law_corner FW.F_other) fuel
def S_law_without (F_law_corner : List D → Option RV) (F_law_mended : List D → Option RV) (F_law_other : List D → Option RV) : SX := sSeq (sSet 2 (eCallN 2 F_law_corner (aCons (eVar 0) (aCons (eB (b2 fMul (cst (.int 2)) (bVar 1))) aNil)))) (sSeq (sIf (b2 fNotIn (b2 fAdd (b2 fMul (cst (.int 2)) (bVar 1)) (cst (.int 1))) (bVar 2)) (sRet (eCallN 2 F_law_mended (aCons (eCallN 2 F_law_mended (aCons (eVar 0) (aCons (eB (b2 fMul (cst (.int 2)) (bVar 1))) aNil))) (aCons (eB (b2 fAdd (b2 fMul (cst (.int 2)) (bVar 1)) (cst (.int 1)))) aNil)))) sNext) (sSeq (sSet 3 eDict) (sSeq (sForV 0 (gdName 4) (sIf (b2 fNotIn (bVar 4) (bVar 2)) (sDput 3 (bVar 4) (eIx (bVar 0) (bVar 4))) sNext)) (sSeq (sFrz 2 (sSet 5 (eIx (bE (eLcV 2 (gdName 4) (b2 fNe (b2 fDiv (bVar 4) (cst (.int 2))) (bVar 1)) (eVar 4) [4])) (cst (.int 0))))) (sRet (eCallB 2 F_law_mended (gV 3 (gE (eCallN 1 F_law_other (aCons (eVar 5) aNil)) gNone))))))))
def F_law_without : List D → Option RV := fnD 6 (S_law_without F_law_corner F_law_mended FW.F_other) fuel
def S_law_blow (F_law_corner : List D → Option RV) (F_law_seat : List D → Option D) : SX := sSeq (sAsg (eCallN 2 F_law_corner (aCons (eVar 0) (aCons (eVar 1) aNil))) (gdSeq [5, 6, 7])) (sSeq (sSet 3 (eFr fDict (abCons (bVar 0) aNil))) (sSeq (sSet 4 (eB (b2 fMul (cst (.int 2)) (bVar 2)))) (sSeq (sCallM 3 2 F_law_seat (aCons (eTup (aCons (eVar 5) (aCons (eVar 4) (aCons (eB (b2 fAdd (bVar 4) (cst (.int 5)))) aNil)))) aNil)) (sSeq (sCallM 3 2 F_law_seat (aCons (eTup (aCons (eVar 6) (aCons (eB (b2 fAdd (bVar 4) (cst (.int 2)))) (aCons (eB (b2 fAdd (bVar 4) (cst (.int 1)))) aNil)))) aNil)) (sSeq (sCallM 3 2 F_law_seat (aCons (eTup (aCons (eVar 7) (aCons (eB (b2 fAdd (bVar 4) (cst (.int 4)))) (aCons (eB (b2 fAdd (bVar 4) (cst (.int 3)))) aNil)))) aNil)) (sRetV 3))))))
def F_law_blow : List D → Option RV := fnD 8 (S_law_blow F_law_corner FW.F_seat) fuel
def S_law_part (F_law_corner : List D → Option RV) (F_law_seat : List D → Option D) (F_law_other : List D → Option RV) : SX := sSeq (sSet 4 (eFr fDict (abCons (bVar 0) aNil))) (sSeq (sSet 5 (eB (b2 fMul (cst (.int 2)) (bVar 3)))) (sSeq (sFor (srcT (eTup (aCons (eTup (aCons (eCallN 1 F_law_other (aCons (eVar 1) aNil)) (aCons (eB (b2 fAdd (bVar 5) (cst (.int 1)))) aNil))) (aCons (eTup (aCons (eCallN 1 F_law_other (aCons (eVar 2) aNil)) (aCons (eB (b2 fAdd (bVar 5) (cst (.int 3)))) aNil))) aNil)))) (gdSeq [6, 7]) (sSeq (sAsg (eCallB 2 F_law_corner (gV 4 (gV 6 gNone))) (gdSeq [8, 9, 10])) (sSeq (sCallM 4 2 F_law_seat (aCons (eTup (aCons (eVar 7) (aCons (eVar 9) (aCons (eVar 10) aNil)))) aNil)) (sCallM 4 2 F_law_seat (aCons (eTup (aCons (eVar 6) (aCons (eB (b2 fAdd (b2 fAdd (bVar 5) (cst (.int 4))) (b2 fDiv (b2 fSub (bVar 7) (bVar 5)) (cst (.int 2))))) (aCons (eB (b2 fSub (bVar 7) (cst (.int 1)))) aNil)))) aNil))))) (sRetV 4)))
def F_law_part : List D → Option RV := fnD 11 (S_law_part F_law_corner FW.F_seat FW.F_other) fuel
def S_law_step (F_law_digits : List D → Option RV) (F_law_rims : List D → Option RV) (F_law_loop : List D → Option RV) (F_law_push : List D → Option RV) (F_law_one_bubble : List D → Option RV) (F_law_without : List D → Option RV) (F_law_blow : List D → Option RV) (F_law_rim : List D → Option RV) (F_law_part : List D → Option RV) : SX := sSeq (sAsg (eCallN 2 F_law_digits (aCons (eVar 2) (aCons (eLst (aCons (eB (cst (.int 8))) (aCons (eB (cst (.int 4001))) (aCons (eB (cst (.int 4003))) aNil)))) aNil))) (gdSeq [6, 7, 8])) (sSeq (sSet 3 (eFr fSorted (abCons (bE (eFr fList (abCons (bVar 0) aNil))) aNil))) (sSeq (sSet 4 (eIx (bVar 3) (b2 fMod (bVar 7) (bn fLen (abCons (bVar 3) aNil))))) (sSeq (sIf (b2 fEq (bVar 6) (cst (.int 7))) (sSeq (sSet 9 (eMinLen (bE (eCallN 1 F_law_rims (aCons (eVar 0) aNil))))) (sSet 4 (eIx (bVar 9) (b2 fMod (bVar 8) (bn fLen (abCons (bVar 9) aNil)))))) sNext) (sSeq (sSet 5 (eB (b2 fDiv (bVar 4) (cst (.int 2))))) (sSeq (sIf (bAnd (b2 fIn (bVar 6) (bE (eTup (aCons (eB (cst (.int 0))) (aCons (eB (cst (.int 1))) (aCons (eB (cst (.int 2))) (aCons (eB (cst (.int 7))) aNil))))))) (bNot (bE (eCallN 2 F_law_loop (aCons (eVar 0) (aCons (eVar 5) aNil)))))) (sRet (eTup (aCons (eCallN 3 F_law_push (aCons (eVar 0) (aCons (eVar 5) (aCons (eB (b2 fEq (bVar 6) (cst (.int 2)))) aNil)))) (aCons (eVar 1) aNil)))) sNext) (sSeq (sIf (bAnd (b2 fIn (bVar 6) (bE (eTup (aCons (eB (cst (.int 3))) (aCons (eB (cst (.int 6))) aNil))))) (bNot (bE (eCallN 2 F_law_one_bubble (aCons (eVar 0) (aCons (eVar 5) aNil)))))) (sRet (eTup (aCons (eCallN 2 F_law_without (aCons (eVar 0) (aCons (eVar 5) aNil))) (aCons (eVar 1) aNil)))) sNext) (sSeq (sIf (bAnd (b2 fEq (bVar 6) (cst (.int 4))) (b2 fLt (bn fLen (abCons (bVar 0) aNil)) (cst (.int 340)))) (sRet (eTup (aCons (eCallN 3 F_law_blow (aCons (eVar 0) (aCons (eVar 4) (aCons (eVar 1) aNil)))) (aCons (eB (b2 fAdd (bVar 1) (cst (.int 3)))) aNil)))) sNext) (sSeq (sIf (bAnd (b2 fEq (bVar 6) (cst (.int 5))) (b2 fLt (bn fLen (abCons (bVar 0) aNil)) (cst (.int 340)))) (sSeq (sSet 9 (eCallN 2 F_law_rim (aCons (eVar 0) (aCons (eVar 4) aNil)))) (sSeq (sSet 10 (eIx (bVar 9) (b2 fMod (bVar 8) (bn fLen (abCons (bVar 9) aNil))))) (sIf (b2 fNe (b2 fDiv (bVar 10) (cst (.int 2))) (bVar 5)) (sRet (eTup (aCons (eCallN 4 F_law_part (aCons (eVar 0) (aCons (eVar 4) (aCons (eVar 10) (aCons (eVar 1) aNil))))) (aCons (eB (b2 fAdd (bVar 1) (cst (.int 3)))) aNil)))) sNext))) sNext) (sRet (eTup (aCons (eVar 0) (aCons (eVar 1) aNil))))))))))))
def F_law_step : List D → Option RV := fnD 11 (S_law_step FA.F_digits F_law_rims F_law_loop F_law_push F_law_one_bubble F_law_without F_law_blow FW.F_rim F_law_part) fuel
def S_law_web (F_law_digits : List D → Option RV) (F_law_cell : List D → Option RV) (F_law_comb : List D → Option RV) (F_law_step : List D → Option RV) : SX := sSeq (sAsg (eCallN 2 F_law_digits (aCons (eCallN 2 F_law_cell (aCons (eVar 0) (aCons (eB (cst (.int 0))) aNil))) (aCons (eLst (aCons (eB (cst (.int 3))) (aCons (eB (cst (.int 4))) (aCons (eB (cst (.int 11))) aNil)))) aNil))) (gdSeq [5, 6, 7])) (sSeq (sPar 5 6 (aCons (eB (b2 fAdd (bVar 5) (cst (.int 1)))) (aCons (eB (b2 fAdd (bVar 6) (cst (.int 1)))) aNil))) (sSeq (sIf (b2 fEq (bVar 7) (cst (.int 0))) (sAsg (eTup (aCons (eB (cst (.int 6))) (aCons (eB (cst (.int 6))) aNil))) (gdSeq [5, 6])) sNext) (sSeq (sSet 2 (eCallN 2 F_law_comb (aCons (eVar 5) (aCons (eVar 6) aNil)))) (sSeq (sSet 3 (eB (b2 fMul (b2 fMul (cst (.int 3)) (bVar 5)) (bVar 6)))) (sSeq (sFor (srcL (eSlice (bVar 0) (oInt (cst (.int 1))) (oInt (b2 fAdd (cst (.int 1)) (bVar 1))))) (gdName 4) (sFrz 2 (sAsg (eCallN 3 F_law_step (aCons (eVar 2) (aCons (eVar 3) (aCons (eVar 4) aNil)))) (gdSeq [2, 3])))) (sRetV 2))))))
def F_law_web : List D → Option RV := fnD 8 (S_law_web FA.F_digits FA.F_cell FW.F_lcomb F_law_step) fuel
def S_law_drawn_web (F_law_renumbered : List D → Option RV) (F_law_cell : List D → Option RV) (F_law_web : List D → Option RV) : SX := sRet (eCallN 2 F_law_renumbered (aCons (eCallN 2 F_law_web (aCons (eVar 0) (aCons (eVar 1) aNil))) (aCons (eCallN 2 F_law_cell (aCons (eVar 0) (aCons (eB (b2 fAdd (bVar 1) (cst (.int 1)))) aNil))) aNil)))
def F_law_drawn_web : List D → Option RV := fnD 2 (S_law_drawn_web F_law_renumbered FA.F_cell F_law_web) fuel
def S_law_whole : SX := sRet (eB (bAnd (b1 (fIs "int") (bVar 0)) (bNot (b1 (fIs "bool") (bVar 0)))))
def S_law_is_web (F_law_whole : List D → Option RV) : SX := sSeq (sIf (bOr (bNot (b1 (fIs "dict") (bVar 0))) (b2 fNe (bn fLen (abCons (bVar 0) aNil)) (bn fLen (abCons (bVar 1) aNil)))) (sRet (eB (cst (.bl false)))) sNext) (sSeq (sForV 1 (gdName 2) (sIf (bOr (b2 fNotIn (bVar 2) (bVar 0)) (bOr (bNot (bE (eCallN 1 F_law_whole (aCons (eIx (bVar 0) (bVar 2)) aNil)))) (b2 fNe (bE (eIx (bVar 0) (bVar 2))) (bE (eIx (bVar 1) (bVar 2)))))) (sRet (eB (cst (.bl false)))) sNext)) (sRet (eB (bn fAll (abCons (bE (eLcV 0 (gdName 2) (cst (.bl true)) (eCallN 1 F_law_whole (aCons (eVar 2) aNil)) [2])) aNil)))))
def S_law_swapped (F_law_other : List D → Option RV) : SX := sSeq (sSet 2 eDict) (sSeq (sForV 0 (gdName 3) (sSeq (sDput 2 (bVar 3) (eVar 3)) (sIf (b2 fEq (b2 fDiv (bVar 3) (cst (.int 2))) (bVar 1)) (sDput 2 (bVar 3) (eCallN 1 F_law_other (aCons (eVar 3) aNil))) sNext))) (sSeq (sSet 4 eDict) (sSeq (sForV 0 (gdName 3) (sDput 4 (bE (eIx (bVar 2) (bVar 3))) (eIx (bVar 2) (bE (eIx (bVar 0) (bVar 3)))))) (sRetV 4))))
def F_law_swapped : List D → Option RV := fnD 5 (S_law_swapped FW.F_other) fuel
def S_other : SX := sSeq (sIf (b2 fEq (b2 fMod (bVar 0) (cst (.int 2))) (cst (.int 0))) (sRet (eB (b2 fAdd (bVar 0) (cst (.int 1))))) sNext) (sRet (eB (b2 fSub (bVar 0) (cst (.int 1)))))
def S_rim (F_require_end : List D → Option RV) (F_other : List D → Option RV) : SX := sSeq (sExpr (eCallN 2 F_require_end (aCons (eVar 0) (aCons (eVar 1) aNil)))) (sSeq (sSet 2 (eLst (aCons (eVar 1) aNil))) (sSeq (sSet 3 (eIx (bVar 0) (bE (eCallN 1 F_other (aCons (eVar 1) aNil))))) (sSeq (sWhile (b2 fNe (bVar 3) (bVar 1)) (sSeq (sAppend 2 (eVar 3)) (sSet 3 (eIx (bVar 0) (bE (eCallN 1 F_other (aCons (eVar 3) aNil))))))) (sRetV 2))))
def F_rim : List D → Option RV := fnD 4 (S_rim F_require_end FW.F_other) fuel
def S_rims (F_rim : List D → Option RV) : SX := sSeq (sSet 1 (eLst aNil)) (sSeq (sSet 2 eDict) (sSeq (sFor (srcL (eFr fSorted (abCons (bVar 0) aNil))) (gdName 3) (sIf (b2 fNotIn (bVar 3) (bVar 2)) (sSeq (sSet 4 (eCallN 2 F_rim (aCons (eVar 0) (aCons (eVar 3) aNil)))) (sSeq (sFrz 4 (sAppend 1 (eVar 4))) (sFrz 4 (sForV 4 (gdName 5) (sDput 2 (bVar 5) (eB (cst (.bl true)))))))) sNext)) (sRetV 1)))
def F_rims : List D → Option RV := fnD 6 (S_rims F_rim) fuel
def S_comes_round : SX := sSeq (sSet 2 (eIx (bVar 0) (bVar 1))) (sSeq (sSet 3 (eIx (bVar 0) (bVar 2))) (sRet (eB (bAnd (b2 fNe (bVar 2) (bVar 1)) (b2 fEq (bE (eIx (bVar 0) (bVar 3))) (bVar 1))))))
def F_comes_round : List D → Option RV := fnD 4 S_comes_round fuel
def S_reached_ends (F_other : List D → Option RV) : SX := sSeq (sSet 1 (eB (bn fMinS (abCons (bVar 0) aNil)))) (sSeq (sSet 2 (eDisp1 (bVar 1) (eB (cst (.bl true))))) (sSeq (sSet 3 (eLst (aCons (eVar 1) aNil))) (sSeq (sWhile (bVar 3) (sSeq (sPop 4 3) (sFor (srcT (eTup (aCons (eCallB 1 F_other (gV 4 gNone)) (aCons (eIx (bVar 0) (bVar 4)) aNil)))) (gdName 5) (sIf (b2 fNotIn (bVar 5) (bVar 2)) (sSeq (sDput 2 (bVar 5) (eB (cst (.bl true)))) (sAppend 3 (eVar 5))) sNext)))) (sRetV 2))))
def F_reached_ends : List D → Option RV := fnD 6 (S_reached_ends FW.F_other) fuel
def S_end_fault (F_other : List D → Option RV) (F_comes_round : List D → Option RV) : SX := sSeq (sSet 1 (eLcV 0 (gdName 4) (b2 fNotIn (bE (eCallN 1 F_other (aCons (eVar 4) aNil))) (bVar 0)) (eVar 4) [4])) (sSeq (sIf (bVar 1) (sRet (eTup (aCons (eB (cst (.str "lone"))) (aCons (eB (bn fMinS (abCons (bVar 1) aNil))) aNil)))) sNext) (sSeq (sSet 2 (eLcV 0 (gdName 4) (b2 fNotIn (bE (eIx (bVar 0) (bVar 4))) (bVar 0)) (eVar 4) [4])) (sSeq (sIf (bVar 2) (sRet (eTup (aCons (eB (cst (.str "astray"))) (aCons (eB (bn fMinS (abCons (bVar 2) aNil))) aNil)))) sNext) (sSeq (sSet 3 (eLcV 0 (gdName 4) (bNot (bE (eCallN 2 F_comes_round (aCons (eVar 0) (aCons (eVar 4) aNil))))) (eVar 4) [4])) (sSeq (sIf (bVar 3) (sRet (eTup (aCons (eB (cst (.str "corner"))) (aCons (eB (bn fMinS (abCons (bVar 3) aNil))) aNil)))) sNext) (sRet (eB (cst .non))))))))
def F_end_fault : List D → Option RV := fnD 5 (S_end_fault FW.F_other F_comes_round) fuel
def S_whole_fault (F_reached_ends : List D → Option RV) (F_rims : List D → Option RV) : SX := sSeq (sSet 1 (eCallN 1 F_reached_ends (aCons (eVar 0) aNil))) (sSeq (sSet 2 (eLcV 0 (gdName 4) (b2 fNotIn (bVar 4) (bVar 1)) (eVar 4) [4])) (sSeq (sIf (bVar 2) (sRet (eTup (aCons (eB (cst (.str "apart"))) (aCons (eB (bn fMinS (abCons (bVar 2) aNil))) aNil)))) sNext) (sSeq (sSet 3 (eB (bn fLen (abCons (bE (eCallN 1 F_rims (aCons (eVar 0) aNil))) aNil)))) (sSeq (sIf (b2 fNe (b2 fMul (cst (.int 6)) (bVar 3)) (bn fLen (abCons (bVar 0) aNil))) (sRet (eTup (aCons (eB (cst (.str "glasses"))) (aCons (eVar 3) aNil)))) sNext) (sRet (eB (cst .non)))))))
def F_whole_fault : List D → Option RV := fnD 5 (S_whole_fault F_reached_ends F_rims) fuel
def S_web_fault (F_end_fault : List D → Option RV) (F_whole_fault : List D → Option RV) : SX := sSeq (sIf (bNot (bVar 0)) (sRet (eTup (aCons (eB (cst (.str "none"))) (aCons (eB (cst (.int 0))) aNil)))) sNext) (sSeq (sSet 1 (eCallN 1 F_end_fault (aCons (eVar 0) aNil))) (sSeq (sIf (b1 fNotN (bVar 1)) (sRetV 1) sNext) (sRet (eCallN 1 F_whole_fault (aCons (eVar 0) aNil)))))
def F_web_fault : List D → Option RV := fnD 2 (S_web_fault F_end_fault F_whole_fault) fuel
def S_law_turned_dict : SX := sSeq (sSet 1 eDict) (sSeq (sFor (srcL (eRev (bE (eFr fList (abCons (bVar 0) aNil))))) (gdName 2) (sDput 1 (bVar 2) (eIx (bVar 0) (bVar 2)))) (sRetV 1))
def F_law_turned_dict : List D → Option RV := fnD 3 S_law_turned_dict fuel
def S_law_label (F_law_rims : List D → Option RV) : SX := sSeq (sSet 1 eDict) (sSeq (sFor (srcL (eCallN 1 F_law_rims (aCons (eVar 0) aNil))) (gdName 2) (sForV 2 (gdName 3) (sDput 1 (bVar 3) (eIx (bVar 2) (cst (.int 0)))))) (sRetV 1))
def F_law_label : List D → Option RV := fnD 4 (S_law_label F_law_rims) fuel
def S_law_flood (F_law_other : List D → Option RV) : SX := sSeq (sSet 2 (eDisp1 (bVar 1) (eB (cst (.bl true))))) (sSeq (sSet 3 (eLst (aCons (eVar 1) aNil))) (sSeq (sWhile (b2 fGt (bn fLen (abCons (bVar 3) aNil)) (cst (.int 0))) (sSeq (sPop 4 3) (sFor (srcT (eTup (aCons (eIx (bVar 0) (bVar 4)) (aCons (eCallB 1 F_law_other (gV 4 gNone)) aNil)))) (gdName 5) (sIf (b2 fNotIn (bVar 5) (bVar 2)) (sSeq (sDput 2 (bVar 5) (eB (cst (.bl true)))) (sAppend 3 (eVar 5))) sNext)))) (sRetV 2)))
def S_law_count_rims (F_law_other : List D → Option RV) : SX := sSeq (sSet 1 eDict) (sSeq (sSet 2 (eB (cst (.int 0)))) (sSeq (sForV 0 (gdName 3) (sIf (b2 fNotIn (bVar 3) (bVar 1)) (sSeq (sSet 2 (eB (b2 (fI yes2 fun a b => .int (a + b)) (bVar 2) (cst (.int 1))))) (sSeq (sSet 4 (eVar 3)) (sWhile (b2 fNotIn (bVar 4) (bVar 1)) (sSeq (sDput 1 (bVar 4) (eB (cst (.bl true)))) (sSet 4 (eIx (bVar 0) (bE (eCallN 1 F_law_other (aCons (eVar 4) aNil))))))))) sNext)) (sRetV 2)))
def S_law_fault (F_law_other : List D → Option RV) (F_law_flood : List D → Option RV) (F_law_count_rims : List D → Option RV) : SX := sSeq (sSet 1 (eFr fSorted (abCons (bE (eFr fList (abCons (bVar 0) aNil))) aNil))) (sSeq (sIf (b2 fEq (bn fLen (abCons (bVar 1) aNil)) (cst (.int 0))) (sRet (eTup (aCons (eB (cst (.str "none"))) (aCons (eB (cst (.int 0))) aNil)))) sNext) (sSeq (sFrz 1 (sSet 2 (eLcV 1 (gdName 8) (b2 fNotIn (bE (eCallN 1 F_law_other (aCons (eVar 8) aNil))) (bVar 0)) (eVar 8) [8]))) (sSeq (sIf (b2 fGt (bn fLen (abCons (bVar 2) aNil)) (cst (.int 0))) (sRet (eTup (aCons (eB (cst (.str "lone"))) (aCons (eIx (bVar 2) (cst (.int 0))) aNil)))) sNext) (sSeq (sFrz 1 (sSet 3 (eLcV 1 (gdName 8) (b2 fNotIn (bE (eIx (bVar 0) (bVar 8))) (bVar 0)) (eVar 8) [8]))) (sSeq (sIf (b2 fGt (bn fLen (abCons (bVar 3) aNil)) (cst (.int 0))) (sRet (eTup (aCons (eB (cst (.str "astray"))) (aCons (eIx (bVar 3) (cst (.int 0))) aNil)))) sNext) (sSeq (sFrz 1 (sSet 4 (eLcV 1 (gdName 8) (bOr (b2 fEq (bE (eIx (bVar 0) (bVar 8))) (bVar 8)) (b2 fNe (bE (eIx (bVar 0) (bE (eIx (bVar 0) (bE (eIx (bVar 0) (bVar 8))))))) (bVar 8))) (eVar 8) [8]))) (sSeq (sIf (b2 fGt (bn fLen (abCons (bVar 4) aNil)) (cst (.int 0))) (sRet (eTup (aCons (eB (cst (.str "corner"))) (aCons (eIx (bVar 4) (cst (.int 0))) aNil)))) sNext) (sSeq (sSet 5 (eCallN 2 F_law_flood (aCons (eVar 0) (aCons (eIx (bVar 1) (cst (.int 0))) aNil)))) (sSeq (sFrz 1 (sSet 6 (eLcV 1 (gdName 8) (b2 fNotIn (bVar 8) (bVar 5)) (eVar 8) [8]))) (sSeq (sIf (b2 fGt (bn fLen (abCons (bVar 6) aNil)) (cst (.int 0))) (sRet (eTup (aCons (eB (cst (.str "apart"))) (aCons (eIx (bVar 6) (cst (.int 0))) aNil)))) sNext) (sSeq (sSet 7 (eCallN 1 F_law_count_rims (aCons (eVar 0) aNil))) (sSeq (sIf (b2 fNe (b2 fMul (cst (.int 6)) (bVar 7)) (bn fLen (abCons (bVar 1) aNil))) (sFrz 7 (sRet (eTup (aCons (eB (cst (.str "glasses"))) (aCons (eVar 7) aNil))))) sNext) (sRet (eB (cst .non)))))))))))))))
def S_take_place (F_corner : List D → Option RV) (F_join_corner : List D → Option D) : SX := sSeq (sAsg (eSlice (bE (eCallB 2 F_corner (gV 0 (gV 2 gNone)))) (oInt (cst (.int 1))) oNone) (gdSeq [3, 4])) (sSeq (sDdel 0 (bVar 2)) (sCallM 0 4 F_join_corner (aCons (eVar 1) (aCons (eVar 3) (aCons (eVar 4) aNil)))))
def F_take_place : List D → Option D := fnM 5 (S_take_place F_corner FW.F_join) fuel
def S_mend (F_corner : List D → Option RV) (F_take_place : List D → Option D) (F_other : List D → Option RV) : SX := sSeq (sSet 2 (eSlice (bE (eCallB 2 F_corner (gV 0 (gV 1 gNone)))) (oInt (cst (.int 1))) oNone)) (sSeq (sSet 3 (eB (bn fMinS (abCons (bVar 2) aNil)))) (sSeq (sSet 4 (eB (bn fMaxS (abCons (bVar 2) aNil)))) (sSeq (sFor (srcT (eTup (aCons (eVar 1) (aCons (eVar 3) (aCons (eVar 4) aNil))))) (gdName 5) (sDdel 0 (bVar 5))) (sCallM 0 3 F_take_place (aCons (eVar 3) (aCons (eCallN 1 F_other (aCons (eVar 4) aNil)) aNil))))))
def F_mend : List D → Option D := fnM 6 (S_mend F_corner F_take_place FW.F_other) fuel
def S_burst_loop (F_other : List D → Option RV) (F_corner : List D → Option RV) (F_mend : List D → Option D) : SX := sSeq (sSet 2 (eCallN 1 F_other (aCons (eVar 1) aNil))) (sSeq (sSet 3 (eIx (bE (eLc (srcT (eSlice (bE (eCallB 2 F_corner (gV 0 (gV 1 gNone)))) (oInt (cst (.int 1))) oNone)) (gdName 5) (b2 fNe (bVar 5) (bVar 2)) (eVar 5) [5])) (cst (.int 0)))) (sSeq (sFrz 2 (sFor (srcT (eTup (aCons (eVar 1) (aCons (eVar 2) (aCons (eVar 3) aNil))))) (gdName 4) (sDdel 0 (bVar 4)))) (sCallM 0 2 F_mend (aCons (eCallN 1 F_other (aCons (eVar 3) aNil)) aNil))))
def F_burst_loop : List D → Option D := fnM 6 (S_burst_loop FW.F_other F_corner F_mend) fuel
def S_burst (F_require_film : List D → Option RV) (F_rim : List D → Option RV) (F_corner : List D → Option RV) (F_burst_loop : List D → Option D) (F_mend : List D → Option D) : SX := sSeq (sExpr (eCallN 2 F_require_film (aCons (eVar 0) (aCons (eVar 1) aNil)))) (sSeq (sSet 2 (eB (b2 fMul (cst (.int 2)) (bVar 1)))) (sSeq (sSet 3 (eB (b2 fAdd (b2 fMul (cst (.int 2)) (bVar 1)) (cst (.int 1))))) (sSeq (sIf (b2 fIn (bVar 3) (bE (eCallN 2 F_rim (aCons (eVar 0) (aCons (eVar 2) aNil))))) sNever sNext) (sSeq (sSet 4 (eFr fDict (abCons (bVar 0) aNil))) (sSeq (sIf (b2 fIn (bVar 3) (bE (eCallN 2 F_corner (aCons (eVar 0) (aCons (eVar 2) aNil))))) (sCallM 4 2 F_burst_loop (aCons (eVar 2) aNil)) (sSeq (sCallM 4 2 F_mend (aCons (eVar 2) aNil)) (sCallM 4 2 F_mend (aCons (eVar 3) aNil)))) (sRetV 4))))))
def F_burst : List D → Option RV := fnD 5 (S_burst F_require_film F_rim F_corner F_burst_loop F_mend) fuel
def S_law_pick (F_law_digits : List D → Option RV) (F_law_rims : List D → Option RV) : SX := sSeq (sAsg (eCallN 2 F_law_digits (aCons (eVar 1) (aCons (eLst (aCons (eB (cst (.int 4001))) (aCons (eB (cst (.int 3))) aNil))) aNil))) (gdSeq [3, 4])) (sSeq (sSet 2 (eFr fSorted (abCons (bE (eFr fList (abCons (bVar 0) aNil))) aNil))) (sSeq (sIf (b2 fEq (bVar 4) (cst (.int 1))) (sSet 2 (eMinLen (bE (eCallN 1 F_law_rims (aCons (eVar 0) aNil))))) sNext) (sRet (eIx (bVar 2) (b2 fMod (bVar 3) (bn fLen (abCons (bVar 2) aNil)))))))
def F_law_pick : List D → Option RV := fnD 5 (S_law_pick FA.F_digits F_law_rims) fuel
def S_halve (F_take_place : List D → Option D) (F_other : List D → Option RV) : SX := sCallM 0 3 F_take_place (aCons (eB (b2 fAdd (b2 fMul (cst (.int 2)) (bVar 2)) (cst (.int 1)))) (aCons (eCallN 1 F_other (aCons (eVar 1) aNil)) aNil))
def F_halve : List D → Option D := fnM 3 (S_halve F_take_place FW.F_other) fuel
def S_parted (F_require_end : List D → Option RV) (F_rim : List D → Option RV) (F_other : List D → Option RV) (F_halve : List D → Option D) (F_join_corner : List D → Option D) : SX := sSeq (sExpr (eCallN 2 F_require_end (aCons (eVar 0) (aCons (eVar 1) aNil)))) (sSeq (sExpr (eCallN 2 F_require_end (aCons (eVar 0) (aCons (eVar 2) aNil)))) (sSeq (sIf (b2 fNotIn (bVar 2) (bE (eCallN 2 F_rim (aCons (eVar 0) (aCons (eVar 1) aNil))))) sNever sNext) (sSeq (sIf (b2 fIn (bVar 2) (bE (eTup (aCons (eVar 1) (aCons (eCallN 1 F_other (aCons (eVar 1) aNil)) aNil))))) sNever sNext) (sSeq (sSet 4 (eFr fDict (abCons (bVar 0) aNil))) (sSeq (sCallM 4 3 F_halve (aCons (eVar 1) (aCons (eVar 3) aNil))) (sSeq (sCallM 4 3 F_halve (aCons (eVar 2) (aCons (eB (b2 fAdd (bVar 3) (cst (.int 1)))) aNil))) (sSeq (sCallM 4 4 F_join_corner (aCons (eCallN 1 F_other (aCons (eVar 1) aNil)) (aCons (eB (b2 fAdd (b2 fMul (cst (.int 2)) (bVar 3)) (cst (.int 4)))) (aCons (eB (b2 fMul (cst (.int 2)) (bVar 3))) aNil)))) (sSeq (sCallM 4 4 F_join_corner (aCons (eCallN 1 F_other (aCons (eVar 2) aNil)) (aCons (eB (b2 fAdd (b2 fMul (cst (.int 2)) (bVar 3)) (cst (.int 5)))) (aCons (eB (b2 fAdd (b2 fMul (cst (.int 2)) (bVar 3)) (cst (.int 2)))) aNil)))) (sRetV 4)))))))))
def F_parted : List D → Option RV := fnD 5 (S_parted F_require_end F_rim FW.F_other F_halve FW.F_join) fuel
def S_law_free : SX := sRet (eB (b2 fAdd (cst (.int 1)) (b2 fDiv (bn fMaxS (abCons (bE (eFr fList (abCons (bVar 0) aNil))) aNil)) (cst (.int 2)))))
def F_law_free : List D → Option RV := fnD 1 S_law_free fuel
def S_blown (F_corner : List D → Option RV) (F_join_corner : List D → Option D) : SX := sSeq (sAsg (eSlice (bE (eCallN 2 F_corner (aCons (eVar 0) (aCons (eVar 1) aNil)))) (oInt (cst (.int 1))) oNone) (gdSeq [4, 5])) (sSeq (sSet 3 (eFr fDict (abCons (bVar 0) aNil))) (sSeq (sCallM 3 4 F_join_corner (aCons (eVar 1) (aCons (eB (b2 fMul (cst (.int 2)) (bVar 2))) (aCons (eB (b2 fAdd (b2 fMul (cst (.int 2)) (bVar 2)) (cst (.int 5)))) aNil)))) (sSeq (sCallM 3 4 F_join_corner (aCons (eVar 4) (aCons (eB (b2 fAdd (b2 fMul (cst (.int 2)) (bVar 2)) (cst (.int 2)))) (aCons (eB (b2 fAdd (b2 fMul (cst (.int 2)) (bVar 2)) (cst (.int 1)))) aNil)))) (sSeq (sCallM 3 4 F_join_corner (aCons (eVar 5) (aCons (eB (b2 fAdd (b2 fMul (cst (.int 2)) (bVar 2)) (cst (.int 4)))) (aCons (eB (b2 fAdd (b2 fMul (cst (.int 2)) (bVar 2)) (cst (.int 3)))) aNil)))) (sRetV 3)))))
def F_blown : List D → Option RV := fnD 6 (S_blown F_corner FW.F_join) fuel
end FS
end

set_option linter.all false
set_option Elab.async false
set_option maxRecDepth 100000
set_option maxHeartbeats 4000000
/-! permutations of a list of numbers, and their rounds -/
namespace CY
open FW
open Classical
theorem sub_len : ∀ {l K : List Int}, l.Nodup → (∀ x ∈ l, x ∈ K) → l.length ≤ K.length
  | [], _, _, _ => Nat.zero_le _
  | a :: l, K, nd, s => by
    have ha := s a List.mem_cons_self
    rw [List.nodup_cons] at nd
    have := sub_len (l := l) (K := K.erase a) nd.2 fun x hx => (List.mem_erase_of_ne (fun z : x = a => nd.1 (z ▸ hx))).mpr (s x (List.mem_cons_of_mem _ hx))
    have hl := List.length_erase_of_mem ha
    have hp := List.length_pos_of_mem ha
    simp only [List.length_cons]
    omega
structure Pm (K : List Int) (f : Int → Int) : Prop where
  nd : K.Nodup
  mp : ∀ x ∈ K, f x ∈ K
  inj : ∀ x ∈ K, ∀ y ∈ K, f x = f y → x = y
section
variable {K : List Int} {f : Int → Int}
theorem itr_mem (P : Pm K f) {x : Int} (hx : x ∈ K) : ∀ n, itr f n x ∈ K
  | 0 => hx
  | n + 1 => P.mp _ (itr_mem P hx n)
theorem itr_add {x : Int} (m : Nat) : ∀ n, itr f (m + n) x = itr f n (itr f m x)
  | 0 => rfl
  | n + 1 => by show f (itr f (m + n) x) = f _; rw [itr_add m n]
theorem itr_cancel (P : Pm K f) {x y : Int} (hx : x ∈ K) (hy : y ∈ K) : ∀ n, itr f n x = itr f n y → x = y
  | 0, h => h
  | n + 1, h => itr_cancel P hx hy n (P.inj _ (itr_mem P hx n) _ (itr_mem P hy n) h)
theorem period (P : Pm K f) {x : Int} (hx : x ∈ K) : ∃ n, 0 < n ∧ n ≤ K.length ∧ itr f n x = x ∧ ∀ i, 0 < i → i < n → itr f i x ≠ x := by
  have ex : ∃ n, 0 < n ∧ n ≤ K.length ∧ itr f n x = x := by
    apply byContradiction
    intro no
    have nd : (path f (K.length + 1) x).Nodup := by
      unfold path
      rw [List.nodup_iff_pairwise_ne, List.pairwise_map]
      refine List.Pairwise.imp_of_mem ?_ List.pairwise_lt_range
      intro i j hi hj hij e
      rw [List.mem_range] at hi hj
      apply no
      refine ⟨j - i, by omega, by omega, ?_⟩
      have e2 : itr f i (itr f (j - i) x) = itr f i x := by rw [← itr_add, show j - i + i = j by omega, ← e]
      exact itr_cancel P (itr_mem P hx _) hx i e2
    have := sub_len nd (K := K) fun y hy => by obtain ⟨i, _, rfl⟩ := mem_path.mp hy; exact itr_mem P hx i
    rw [path_len] at this
    omega
  obtain ⟨n, h1, h2, h3⟩ := ex
  induction n using Nat.strongRecOn with
  | _ n ih =>
    by_cases h : ∃ i, 0 < i ∧ i < n ∧ itr f i x = x
    · obtain ⟨i, a, b, c⟩ := h
      exact ih i b a (by omega) c
    · exact ⟨n, h1, h2, h3, fun i a b c => h ⟨i, a, b, c⟩⟩
/-- on one round -/
def Sm (K : List Int) (f : Int → Int) (x y : Int) : Prop := ∀ S : Int → Prop, (∀ z ∈ K, S z ↔ S (f z)) → (S x ↔ S y)
theorem Sm.refl (x : Int) : Sm K f x x := fun _ _ => Iff.rfl
theorem Sm.symm {x y : Int} (h : Sm K f x y) : Sm K f y x := fun S hS => (h S hS).symm
theorem Sm.trans {x y z : Int} (h : Sm K f x y) (h2 : Sm K f y z) : Sm K f x z := fun S hS => (h S hS).trans (h2 S hS)
theorem Sm.step {x : Int} (hx : x ∈ K) : Sm K f x (f x) := fun _ hS => hS x hx
theorem Sm.itr (P : Pm K f) {x : Int} (hx : x ∈ K) : ∀ n, Sm K f x (itr f n x)
  | 0 => Sm.refl x
  | n + 1 => (Sm.itr P hx n).trans (Sm.step (itr_mem P hx n))
theorem sm_iff (P : Pm K f) {x y : Int} (hx : x ∈ K) : Sm K f x y ↔ ∃ n, itr f n x = y := by
  constructor
  · intro h
    refine (h (fun z => ∃ n, itr f n x = z) fun z hz => ⟨fun ⟨n, e⟩ => ⟨n + 1, by show f (itr f n x) = f z; rw [e]⟩, fun ⟨n, e⟩ => ?_⟩).mp ⟨0, rfl⟩
    obtain ⟨p, h1, _, h3, _⟩ := period P hz
    refine ⟨n + (p - 1), ?_⟩
    rw [itr_add, e]
    have : itr f (1 + (p - 1)) z = z := by rw [show 1 + (p - 1) = p by omega]; exact h3
    rw [itr_add] at this
    exact this
  · rintro ⟨n, rfl⟩
    exact Sm.itr P hx n
/-- so many rounds -/
def Cyc (K : List Int) (f : Int → Int) (m : Nat) : Prop := ∃ R : List Int, R.Nodup ∧ R.length = m ∧ (∀ r ∈ R, r ∈ K) ∧ (∀ x ∈ K, ∃ r ∈ R, Sm K f x r) ∧ ∀ r ∈ R, ∀ r' ∈ R, Sm K f r r' → r = r'
end
section
variable {K K' : List Int} {f f' : Int → Int}
theorem sm_ext (hK : ∀ x, x ∈ K' ↔ x ∈ K) (hf : ∀ x ∈ K, f' x = f x) {x y : Int} : Sm K f x y ↔ Sm K' f' x y := by
  constructor
  · intro h S hS
    exact h S fun z hz => by rw [← hf z hz]; exact hS z ((hK z).mpr hz)
  · intro h S hS
    exact h S fun z hz => by rw [hf z ((hK z).mp hz)]; exact hS z ((hK z).mp hz)
theorem cyc_ext (hK : ∀ x, x ∈ K' ↔ x ∈ K) (hf : ∀ x ∈ K, f' x = f x) {m : Nat} (h : Cyc K f m) : Cyc K' f' m := by
  obtain ⟨R, h1, h2, h3, h4, h5⟩ := h
  refine ⟨R, h1, h2, fun r hr => (hK r).mpr (h3 r hr), fun x hx => ?_, fun r hr r' hr' s => h5 r hr r' hr' ((sm_ext hK hf).mpr s)⟩
  obtain ⟨r, hr, s⟩ := h4 x ((hK x).mp hx)
  exact ⟨r, hr, (sm_ext hK hf).mp s⟩
/-- an element is left out -/
def del (f : Int → Int) (e : Int) : Int → Int := fun x => if f x = e then f e else f x
theorem del_pm (P : Pm K f) {e : Int} (he : e ∈ K) (hf : f e ≠ e) (nd : K'.Nodup) (hK : ∀ x, x ∈ K' ↔ x ∈ K ∧ x ≠ e) : Pm K' (del f e) := by
  refine ⟨nd, fun x hx => ?_, fun x hx y hy h => ?_⟩
  · obtain ⟨h1, h2⟩ := (hK x).mp hx
    unfold del
    split
    · exact (hK _).mpr ⟨P.mp e he, hf⟩
    · rename_i h; exact (hK _).mpr ⟨P.mp x h1, h⟩
  · obtain ⟨x1, x2⟩ := (hK x).mp hx
    obtain ⟨y1, y2⟩ := (hK y).mp hy
    unfold del at h
    split at h <;> split at h
    · rename_i a b; exact P.inj x x1 y y1 (a.trans b.symm)
    · exact absurd (P.inj e he y y1 h).symm y2
    · exact absurd (P.inj x x1 e he h) x2
    · exact P.inj x x1 y y1 h
theorem del_sm (P : Pm K f) {e : Int} (he : e ∈ K) (hf : f e ≠ e) (hK : ∀ x, x ∈ K' ↔ x ∈ K ∧ x ≠ e) {x y : Int} (hx : x ∈ K') (hy : y ∈ K') : Sm K f x y ↔ Sm K' (del f e) x y := by
  obtain ⟨x1, x2⟩ := (hK x).mp hx
  obtain ⟨y1, y2⟩ := (hK y).mp hy
  constructor
  · intro h S hS
    have fe : f e ∈ K' := (hK _).mpr ⟨P.mp e he, hf⟩
    have q := h (fun z => (z = e ∧ S (f e)) ∨ (z ≠ e ∧ S z)) fun z hz => by
      by_cases ze : z = e
      · subst ze
        simp [hf]
      · by_cases fz : f z = e
        · have := hS z ((hK z).mpr ⟨hz, ze⟩)
          unfold del at this
          rw [if_pos fz] at this
          simp [ze, fz, this]
        · have := hS z ((hK z).mpr ⟨hz, ze⟩)
          unfold del at this
          rw [if_neg fz] at this
          simp [ze, fz, this]
    simpa [x2, y2] using q
  · intro h S hS
    refine h S fun z hz => ?_
    obtain ⟨z1, z2⟩ := (hK z).mp hz
    unfold del
    split
    · rename_i fz
      exact (hS z z1).trans (by rw [fz]; exact hS e he)
    · exact hS z z1
theorem del_cyc (P : Pm K f) {e : Int} (he : e ∈ K) (hf : f e ≠ e) (nd : K'.Nodup) (hK : ∀ x, x ∈ K' ↔ x ∈ K ∧ x ≠ e) {m : Nat} : Cyc K f m ↔ Cyc K' (del f e) m := by
  have fe : f e ∈ K' := (hK _).mpr ⟨P.mp e he, hf⟩
  have sm := fun {x y : Int} (hx : x ∈ K') (hy : y ∈ K') => del_sm P he hf hK hx hy
  constructor
  · rintro ⟨R, h1, h2, h3, h4, h5⟩
    by_cases hr : e ∈ R
    · have nf : f e ∉ R := fun z => hf (h5 _ z _ hr ((Sm.step he).symm))
      refine ⟨f e :: R.erase e, ?_, ?_, ?_, ?_, ?_⟩
      · rw [List.nodup_cons]; exact ⟨fun z => nf (List.mem_of_mem_erase z), h1.erase e⟩
      · have := List.length_erase_of_mem hr
        have := List.length_pos_of_mem hr
        simp only [List.length_cons]; omega
      · intro r z
        rcases List.mem_cons.mp z with rfl | z
        · exact fe
        · have := (h1.mem_erase_iff).mp z
          exact (hK r).mpr ⟨h3 r this.2, this.1⟩
      · intro x hx
        obtain ⟨r, r1, r2⟩ := h4 x ((hK x).mp hx).1
        by_cases re : r = e
        · subst re
          exact ⟨f r, List.mem_cons_self, (sm hx fe).mp (r2.trans (Sm.step he))⟩
        · exact ⟨r, List.mem_cons_of_mem _ ((h1.mem_erase_iff).mpr ⟨re, r1⟩), (sm hx ((hK r).mpr ⟨h3 r r1, re⟩)).mp r2⟩
      · have core : ∀ r ∈ R.erase e, ¬ Sm K' (del f e) (f e) r := fun r z s => by
          have z' := (h1.mem_erase_iff).mp z
          have := (sm fe ((hK r).mpr ⟨h3 r z'.2, z'.1⟩)).mpr s
          exact z'.1 (h5 _ hr _ z'.2 ((Sm.step he).trans this)).symm
        intro r z r' z' s
        rcases List.mem_cons.mp z with rfl | z <;> rcases List.mem_cons.mp z' with rfl | z'
        · rfl
        · exact absurd s (core _ z')
        · exact absurd s.symm (core _ z)
        · have a := (h1.mem_erase_iff).mp z
          have b := (h1.mem_erase_iff).mp z'
          exact h5 _ a.2 _ b.2 ((sm ((hK r).mpr ⟨h3 r a.2, a.1⟩) ((hK r').mpr ⟨h3 r' b.2, b.1⟩)).mpr s)
    · have hk : ∀ r ∈ R, r ∈ K' := fun r z => (hK r).mpr ⟨h3 r z, fun e' => hr (e' ▸ z)⟩
      exact ⟨R, h1, h2, hk, fun x hx => let ⟨r, r1, r2⟩ := h4 x ((hK x).mp hx).1; ⟨r, r1, (sm hx (hk r r1)).mp r2⟩, fun r z r' z' s => h5 r z r' z' ((sm (hk r z) (hk r' z')).mpr s)⟩
  · rintro ⟨R, h1, h2, h3, h4, h5⟩
    refine ⟨R, h1, h2, fun r z => ((hK r).mp (h3 r z)).1, fun x hx => ?_, fun r z r' z' s => h5 r z r' z' ((sm (h3 r z) (h3 r' z')).mp s)⟩
    by_cases xe : x = e
    · subst xe
      obtain ⟨r, r1, r2⟩ := h4 _ fe
      exact ⟨r, r1, (Sm.step he).trans ((sm fe (h3 r r1)).mpr r2)⟩
    · obtain ⟨r, r1, r2⟩ := h4 x ((hK x).mpr ⟨hx, xe⟩)
      exact ⟨r, r1, (sm ((hK x).mpr ⟨hx, xe⟩) (h3 r r1)).mpr r2⟩
/-- two elements change what follows them -/
def swp (f : Int → Int) (a b : Int) : Int → Int := fun x => if x = a then f b else if x = b then f a else f x
theorem swp_swp {a b : Int} (x : Int) : swp (swp f a b) a b x = f x := by
  unfold swp
  by_cases h : x = a
  · subst h
    by_cases h2 : b = x
    · simp [h2]
    · simp [h2]
  · by_cases h2 : x = b
    · subst h2; simp [h]
    · simp [h, h2]
theorem swp_join (P : Pm K f) {a b : Int} (ha : a ∈ K) (hb : b ∈ K) (ns : ¬ Sm K f a b) : Sm K (swp f a b) a b := by
  intro S hS
  obtain ⟨n, h1, _, h3, h4⟩ := period P hb
  have key : ∀ i, i < n → (S (f b) ↔ S (itr f (i + 1) b)) := fun i => by
    induction i with
    | zero => intro _; exact Iff.rfl
    | succ i ih =>
      intro hi
      have q := hS (itr f (i + 1) b) (itr_mem P hb _)
      have n1 : itr f (i + 1) b ≠ a := fun z => ns ((sm_iff P hb).mpr ⟨_, z⟩).symm
      have n2 : itr f (i + 1) b ≠ b := h4 _ (by omega) hi
      unfold swp at q
      rw [if_neg n1, if_neg n2] at q
      exact (ih (by omega)).trans q
  have k := key (n - 1) (by omega)
  rw [show n - 1 + 1 = n by omega, h3] at k
  have qa := hS a ha
  unfold swp at qa
  rw [if_pos rfl] at qa
  exact qa.trans k
theorem swp_inv {a b : Int} (ha : a ∈ K) (hb : b ∈ K) {S : Int → Prop} (hS : ∀ z ∈ K, S z ↔ S (f z)) (hab : S a ↔ S b) : ∀ z ∈ K, S z ↔ S (swp f a b z) := by
  intro z hz
  unfold swp
  split
  · rename_i e; subst e; exact hab.trans (hS b hb)
  · split
    · rename_i e; subst e; exact hab.symm.trans (hS a ha)
    · exact hS z hz
/-- joined rounds -/
theorem sm_join (P : Pm K f) {a b : Int} (ha : a ∈ K) (hb : b ∈ K) (ns : ¬ Sm K f a b) {x y : Int} (h : Sm K f x y) : Sm K (swp f a b) x y := by
  intro S hS
  have hab := swp_join P ha hb ns S hS
  refine h S fun z hz => ?_
  have := swp_inv ha hb hS hab z hz
  rwa [swp_swp] at this
theorem cyc_join (P : Pm K f) {a b : Int} (ha : a ∈ K) (hb : b ∈ K) (ns : ¬ Sm K f a b) {m : Nat} (h : Cyc K f (m + 1)) : Cyc K (swp f a b) m := by
  obtain ⟨R, h1, h2, h3, h4, h5⟩ := h
  obtain ⟨ra, ra1, ra2⟩ := h4 a ha
  obtain ⟨rb, rb1, rb2⟩ := h4 b hb
  have hab := swp_join P ha hb ns
  refine ⟨R.erase rb, h1.erase _, ?_, fun r z => h3 r (List.mem_of_mem_erase z), fun x hx => ?_, fun r z r' z' s => ?_⟩
  · have := List.length_erase_of_mem rb1; omega
  · obtain ⟨r, r1, r2⟩ := h4 x hx
    by_cases e : r = rb
    · subst e
      have ne : ra ≠ r := fun z => ns (ra2.trans (z ▸ rb2.symm))
      refine ⟨ra, (h1.mem_erase_iff).mpr ⟨ne, ra1⟩, ?_⟩
      exact (sm_join P ha hb ns (r2.trans rb2.symm)).trans (hab.symm.trans (sm_join P ha hb ns ra2))
    · exact ⟨r, (h1.mem_erase_iff).mpr ⟨e, r1⟩, sm_join P ha hb ns r2⟩
  · have a1 := (h1.mem_erase_iff).mp z
    have b1 := (h1.mem_erase_iff).mp z'
    -- the rounds of a and b together are one set
    by_cases c : Sm K f r a ∨ Sm K f r b
    · have ra' : r = ra := by
        rcases c with c | c
        · exact h5 _ a1.2 _ ra1 (c.trans ra2)
        · exact absurd (h5 _ a1.2 _ rb1 (c.trans rb2)) a1.1
      have q := (s (fun z => Sm K f z a ∨ Sm K f z b) (swp_inv ha hb (fun z hz => by
        constructor
        · rintro (q | q)
          · exact .inl ((Sm.step hz).symm.trans q)
          · exact .inr ((Sm.step hz).symm.trans q)
        · rintro (q | q)
          · exact .inl ((Sm.step hz).trans q)
          · exact .inr ((Sm.step hz).trans q)) ⟨fun _ => .inr (Sm.refl b), fun _ => .inl (Sm.refl a)⟩)).mp c
      rcases q with q | q
      · rw [ra']; exact (h5 _ b1.2 _ ra1 (q.trans ra2)).symm
      · exact absurd (h5 _ b1.2 _ rb1 (q.trans rb2)) b1.1
    · have q := (s (fun z => Sm K f r z) (swp_inv ha hb (fun z hz => ⟨fun q => q.trans (Sm.step hz), fun q => q.trans (Sm.step hz).symm⟩) ⟨fun q => absurd (.inl q) c, fun q => absurd (.inr q) c⟩)).mp (Sm.refl r)
      exact h5 _ a1.2 _ b1.2 q
end
end CY

set_option linter.all false
set_option Elab.async false
set_option maxRecDepth 100000
set_option maxHeartbeats 4000000
/-! maps: ends, their other ends, their next ends -/
namespace CY
open FW
open Classical
theorem oth_ne (x : Int) : oth x ≠ x := by unfold oth; split <;> omega
theorem oth_inj {x y : Int} (h : oth x = oth y) : x = y := by have := congrArg oth h; rwa [oth_oth, oth_oth] at this
structure Mp (K : List Int) (s : Int → Int) : Prop where
  nd : K.Nodup
  ot : ∀ x ∈ K, oth x ∈ K
  mp : ∀ x ∈ K, s x ∈ K
  inj : ∀ x ∈ K, ∀ y ∈ K, s x = s y → x = y
def ph (s : Int → Int) : Int → Int := fun x => s (oth x)
theorem Mp.pm {K : List Int} {s : Int → Int} (M : Mp K s) : Pm K s := ⟨M.nd, M.mp, M.inj⟩
theorem Mp.ph {K : List Int} {s : Int → Int} (M : Mp K s) : Pm K (ph s) :=
  ⟨M.nd, fun x hx => M.mp _ (M.ot x hx), fun x hx y hy e => oth_inj (M.inj _ (M.ot x hx) _ (M.ot y hy) e)⟩
def Conn (K : List Int) (s : Int → Int) : Prop := ∀ S : Int → Prop, (∀ x ∈ K, S x ↔ S (oth x)) → (∀ x ∈ K, S x ↔ S (s x)) → ∀ x ∈ K, ∀ y ∈ K, (S x ↔ S y)
structure Gm (K : List Int) (s : Int → Int) (m : Nat) : Prop where
  mp : Mp K s
  conn : Conn K s
  cyc : Cyc K (ph s) m
/-- what is invariant goes along the rims -/
theorem inv_ph {K : List Int} {s : Int → Int} (M : Mp K s) {S : Int → Prop} (h1 : ∀ x ∈ K, S x ↔ S (oth x)) (h2 : ∀ x ∈ K, S x ↔ S (s x)) : ∀ x ∈ K, S x ↔ S (ph s x) := fun x hx => (h1 x hx).trans (h2 _ (M.ot x hx))
section
variable {K K' : List Int} {s s' : Int → Int} {m : Nat}
theorem Gm.ext (G : Gm K s m) (nd : K'.Nodup) (hK : ∀ x, x ∈ K' ↔ x ∈ K) (hs : ∀ x ∈ K, s' x = s x) : Gm K' s' m := by
  refine ⟨⟨nd, fun x hx => (hK _).mpr (G.mp.ot x ((hK x).mp hx)), fun x hx => by rw [hs x ((hK x).mp hx)]; exact (hK _).mpr (G.mp.mp x ((hK x).mp hx)), fun x hx y hy e => ?_⟩, fun S h1 h2 x hx y hy => ?_, ?_⟩
  · rw [hs x ((hK x).mp hx), hs y ((hK y).mp hy)] at e
    exact G.mp.inj x ((hK x).mp hx) y ((hK y).mp hy) e
  · exact G.conn S (fun z hz => h1 z ((hK z).mpr hz)) (fun z hz => by rw [← hs z hz]; exact h2 z ((hK z).mpr hz)) x ((hK x).mp hx) y ((hK y).mp hy)
  · exact cyc_ext hK (fun x hx => by unfold ph; rw [hs _ (G.mp.ot x hx)]) G.cyc
/-- an end is taken from its corner and stands alone -/
def dt (s : Int → Int) (e : Int) : Int → Int := fun x => if x = e then e else if s x = e then s e else s x
theorem dt_mp (M : Mp K s) {e : Int} (he : e ∈ K) : Mp K (dt s e) := by
  have h1 := M.mp
  have h2 := M.inj
  refine ⟨M.nd, M.ot, fun x hx => ?_, fun x hx y hy h => ?_⟩
  · unfold dt; split
    · exact he
    · split
      · exact h1 e he
      · exact h1 x hx
  · unfold dt at h
    grind
theorem op1 (G : Gm K s (m + 1)) {e p : Int} (he : e ∈ K) (hp : p ∈ K) (hpe : s p = e) (ne : s e ≠ e) (ns : ¬ Sm K (ph s) (oth e) e) : Gm K (dt s e) m := by
  have M := G.mp
  have M' := dt_mp M he
  have pe : p ≠ e := fun z => ne (z ▸ hpe)
  have oe := M.ot e he
  have op := M.ot p hp
  have ns' : ¬ Sm K (ph s) (oth e) (oth p) := fun z => ns (z.trans (by
    have := Sm.step (K := K) (f := ph s) op
    unfold ph at this
    rw [oth_oth, hpe] at this
    exact this))
  have ef : ∀ x ∈ K, ph (dt s e) x = swp (ph s) (oth e) (oth p) x := fun x hx => by
    unfold ph swp dt
    have := M.inj
    have h1 : ∀ y : Int, oth (oth y) = y := oth_oth
    have ho := M.ot x hx
    by_cases c1 : x = oth e
    · subst c1; simp [oth_oth, hpe]
    · by_cases c2 : x = oth p
      · subst c2
        have : ¬ p = e := pe
        simp [oth_oth, hpe, c1, pe]
      · have a1 : oth x ≠ e := fun z => c1 (by rw [← z, oth_oth])
        have a2 : s (oth x) ≠ e := fun z => c2 (by rw [← this _ ho _ hp (z.trans hpe.symm), oth_oth])
        simp [c1, c2, a1, a2]
  refine ⟨M', fun S h1 h2 x hx y hy => ?_, ?_⟩
  · have hj := swp_join M.ph oe op ns' S fun z hz => by rw [← ef z hz]; exact inv_ph M' h1 h2 z hz
    have hep : S e ↔ S p := (h1 e he).trans (hj.trans (h1 p hp).symm)
    refine G.conn S h1 (fun z hz => ?_) x hx y hy
    have q := h2 z hz
    have qp := h2 p hp
    unfold dt at q qp
    rw [if_neg pe, if_pos hpe] at qp
    by_cases c1 : z = e
    · subst c1; exact hep.trans qp
    · rw [if_neg c1] at q
      by_cases c2 : s z = e
      · have : z = p := M.inj _ hz _ hp (c2.trans hpe.symm)
        subst this; rw [c2]; exact hep.symm
      · rw [if_neg c2] at q; exact q
  · exact cyc_ext (fun _ => Iff.rfl) ef (cyc_join M.ph oe op ns' G.cyc)
/-- two films at a corner of two ends become one -/
def md (s : Int → Int) (x y : Int) : Int → Int := fun z => if z = x then s (oth y) else if s z = oth y then x else s z
theorem op2 (G : Gm K s m) {x y : Int} (hx : x ∈ K) (hy : y ∈ K) (e1 : s x = y) (e2 : s y = x) (ne : x ≠ y) (no : oth y ≠ x) (nl : s (oth y) ≠ oth y) (nd : K'.Nodup) (hK : ∀ z, z ∈ K' ↔ z ∈ K ∧ z ≠ y ∧ z ≠ oth y) : Gm K' (md s x y) m := by
  have M := G.mp
  have oo := oth_oth
  have oy := M.ot y hy
  have ox := M.ot x hx
  have inj := M.inj
  have mpp := M.mp
  have hq := mpp _ oy
  have xy : oth y ≠ y := oth_ne y
  have xK : x ∈ K' := (hK x).mpr ⟨hx, ne, fun z => no z.symm⟩
  have qK : s (oth y) ∈ K' := (hK _).mpr ⟨hq, fun z => no (inj _ oy _ hx (z.trans e1.symm)), nl⟩
  have M' : Mp K' (md s x y) := by
    refine ⟨nd, fun z hz => ?_, fun z hz => ?_, fun z hz z' hz' h => ?_⟩
    · obtain ⟨a, b, c⟩ := (hK z).mp hz
      exact (hK _).mpr ⟨M.ot z a, fun q => c (by rw [← q, oth_oth]), fun q => b (oth_inj q)⟩
    · obtain ⟨a, b, c⟩ := (hK z).mp hz
      unfold md
      split
      · exact qK
      · split
        · exact xK
        · rename_i h1 h2
          exact (hK _).mpr ⟨mpp z a, fun q => h1 (inj _ a _ hx (q.trans e1.symm)), h2⟩
    · obtain ⟨a, b, c⟩ := (hK z).mp hz
      obtain ⟨a', b', c'⟩ := (hK z').mp hz'
      unfold md at h
      grind
  have P1 := M.ph
  have f1 : ph s (oth y) ≠ oth y := by unfold ph; rw [oth_oth, e2]; exact fun z => no z.symm
  let K1 := K.erase (oth y)
  have nd1 : K1.Nodup := M.nd.erase _
  have hK1 : ∀ z, z ∈ K1 ↔ z ∈ K ∧ z ≠ oth y := fun z => by rw [show K1 = K.erase (oth y) from rfl, M.nd.mem_erase_iff]; exact and_comm
  have P2 := del_pm P1 oy f1 nd1 hK1
  have yK1 : y ∈ K1 := (hK1 y).mpr ⟨hy, fun z => xy z.symm⟩
  have d1 : del (ph s) (oth y) y = s (oth y) := by unfold del ph; rw [if_neg nl]
  have f2 : del (ph s) (oth y) y ≠ y := by rw [d1]; exact fun z => no (inj _ oy _ hx (z.trans e1.symm))
  have hK2 : ∀ z, z ∈ K' ↔ z ∈ K1 ∧ z ≠ y := fun z => by rw [hK, hK1]; exact ⟨fun h => ⟨⟨h.1, h.2.2⟩, h.2.1⟩, fun h => ⟨h.1.1, h.2, h.1.2⟩⟩
  have ef : ∀ z ∈ K', ph (md s x y) z = del (del (ph s) (oth y)) y z := fun z hz => by
    obtain ⟨a, b, c⟩ := (hK z).mp hz
    have oz := M.ot z a
    show ph (md s x y) z = if del (ph s) (oth y) z = y then del (ph s) (oth y) y else del (ph s) (oth y) z
    rw [d1]
    unfold ph md del
    simp only [oth_oth, e2]
    have i1 : s (oth z) = y ↔ oth z = x := ⟨fun h => inj _ oz _ hx (h.trans e1.symm), fun h => by rw [h, e1]⟩
    by_cases c1 : oth z = x
    · rw [c1, e1]
      have : ¬ y = oth y := fun z => xy z.symm
      simp [this]
    · by_cases c2 : s (oth z) = oth y
      · simp [c1, c2, ne]
      · have c3 : s (oth z) ≠ y := fun h => c1 (i1.mp h)
        simp [c1, c2, c3]
  refine ⟨M', fun S h1 h2 u hu v hv => ?_, ?_⟩
  · -- the same on the larger one
    let T : Int → Prop := fun z => if z = y ∨ z = oth y then S x else S z
    have tx : T x ↔ S x := by simp only [T]; rw [if_neg (by rintro (q | q); exact ne q; exact no q.symm)]
    have ty : T y ↔ S x := by simp [T]
    have toy : T (oth y) ↔ S x := by simp [T]
    have tz : ∀ z ∈ K', (T z ↔ S z) := fun z hz => by
      obtain ⟨a, b, c⟩ := (hK z).mp hz
      simp only [T]; rw [if_neg (by rintro (q | q); exact b q; exact c q)]
    have r := G.conn T (fun z hz => by
      by_cases c1 : z = y
      · subst c1; exact ty.trans toy.symm
      · by_cases c2 : z = oth y
        · subst c2; rw [oth_oth]; exact toy.trans ty.symm
        · have zk := (hK z).mpr ⟨hz, c1, c2⟩
          exact (tz z zk).trans ((h1 z zk).trans (tz _ (M'.ot z zk)).symm)) (fun z hz => by
      by_cases c1 : z = y
      · subst c1; rw [e2]; exact ty.trans tx.symm
      · by_cases c2 : z = oth y
        · subst c2
          have q := h2 x xK
          unfold md at q
          rw [if_pos rfl] at q
          exact toy.trans (q.trans (tz _ qK).symm)
        · have zk := (hK z).mpr ⟨hz, c1, c2⟩
          by_cases c3 : z = x
          · subst c3; rw [e1]; exact tx.trans ty.symm
          · have q := h2 z zk
            unfold md at q
            rw [if_neg c3] at q
            by_cases c4 : s z = oth y
            · rw [if_pos c4] at q
              rw [c4]
              exact (tz z zk).trans (q.trans toy.symm)
            · rw [if_neg c4] at q
              have sk : s z ∈ K' := (hK _).mpr ⟨mpp z hz, fun q => c3 (inj _ hz _ hx (q.trans e1.symm)), c4⟩
              exact (tz z zk).trans (q.trans (tz _ sk).symm)) u ((hK u).mp hu).1 v ((hK v).mp hv).1
    exact (tz u hu).symm.trans (r.trans (tz v hv))
  · have c1 := (del_cyc P1 oy f1 nd1 hK1 (m := m)).mp G.cyc
    have c2 := (del_cyc P2 yK1 f2 nd hK2 (m := m)).mp c1
    exact cyc_ext (fun _ => Iff.rfl) ef c2
end
end CY

set_option linter.all false
set_option Elab.async false
set_option maxRecDepth 100000
set_option maxHeartbeats 4000000
namespace CY
open FW
open Classical
/-- what a web is -/
structure Wv (K : List Int) (s : Int → Int) (m : Nat) : Prop where
  g : Gm K s m
  tri : ∀ x ∈ K, s x ≠ x ∧ s (s (s x)) = x
  six : 6 * m = K.length
  pos : 0 < m
section
variable {K K' : List Int} {s s' : Int → Int} {m : Nat}
/-- the corner of an end -/
theorem Wv.cor (W : Wv K s m) {e : Int} (he : e ∈ K) : s e ∈ K ∧ s (s e) ∈ K ∧ s e ≠ e ∧ s (s e) ≠ e ∧ s (s e) ≠ s e ∧ s (s (s e)) = e := by
  have t := W.tri e he
  have h1 := W.g.mp.mp e he
  have t1 := W.tri _ h1
  refine ⟨h1, W.g.mp.mp _ h1, t.1, fun z => ?_, t1.1, t.2⟩
  have := t.2
  rw [z] at this
  exact t.1 this
/-- the two corners of a film that does not lead back -/
structure Two (K : List Int) (s : Int → Int) (e o a b c d : Int) : Prop where
  he : e ∈ K
  ho : o ∈ K
  ha : a ∈ K
  hb : b ∈ K
  hc : c ∈ K
  hd : d ∈ K
  se : s e = a
  sa : s a = b
  sb : s b = e
  so : s o = c
  sc : s c = d
  sd : s d = o
  oe : oth e = o
  oo : oth o = e
  n1 : e ≠ o ∧ e ≠ a ∧ e ≠ b ∧ e ≠ c ∧ e ≠ d
  n2 : o ≠ a ∧ o ≠ b ∧ o ≠ c ∧ o ≠ d
  n3 : a ≠ b ∧ a ≠ c ∧ a ≠ d ∧ b ≠ c ∧ b ≠ d ∧ c ≠ d
theorem Wv.two (W : Wv K s m) {e : Int} (he : e ∈ K) (h1 : s e ≠ oth e) (h2 : s (s e) ≠ oth e) : Two K s e (oth e) (s e) (s (s e)) (s (oth e)) (s (s (oth e))) := by
  have ho := W.g.mp.ot e he
  obtain ⟨a1, a2, a3, a4, a5, a6⟩ := W.cor he
  obtain ⟨b1, b2, b3, b4, b5, b6⟩ := W.cor ho
  have inj := W.g.mp.inj
  have ne := oth_ne e
  have e1 : s (oth e) ≠ e := fun z => h2 (by rw [z] at b6; exact b6)
  have e2 : s (s (oth e)) ≠ e := fun z => by rw [z] at b6; exact h1 b6
  refine ⟨he, ho, a1, a2, b1, b2, rfl, rfl, a6, rfl, rfl, b6, rfl, oth_oth e, ⟨fun z => ne z.symm, fun z => a3 z.symm, fun z => a4 z.symm, fun z => e1 z.symm, fun z => e2 z.symm⟩, ⟨fun z => h1 z.symm, fun z => h2 z.symm, fun z => b3 z.symm, fun z => b4 z.symm⟩, ⟨fun z => a5 z.symm, fun z => ne (inj _ he _ ho z).symm, fun z => ?_, fun z => ?_, fun z => ?_, fun z => b5 z.symm⟩⟩
  · exact e1 (inj _ he _ b1 z).symm
  · exact h1 (inj _ a1 _ ho z)
  · have := inj _ a1 _ b1 z
    exact ne (inj _ he _ ho this).symm
/-- six ends stand otherwise: e, x, y at one corner, o, u, v at the other -/
structure Six (s' : Int → Int) (s : Int → Int) (e x y o u v : Int) : Prop where
  f1 : s' e = x
  f2 : s' x = y
  f3 : s' y = e
  f4 : s' o = u
  f5 : s' u = v
  f6 : s' v = o
  f7 : ∀ z, z ≠ e ∧ z ≠ x ∧ z ≠ y ∧ z ≠ o ∧ z ≠ u ∧ z ≠ v → s' z = s z
def pushF (s : Int → Int) (e : Int) : Int → Int := fun z => if z = s e then oth e else if z = s (s (oth e)) then s e else if z = oth e then s (s (oth e)) else if z = s (oth e) then e else if z = s (s e) then s (oth e) else if z = e then s (s e) else s z
def pullF (s : Int → Int) (e : Int) : Int → Int := fun z => if z = s (oth e) then oth e else if z = s (s e) then s (oth e) else if z = oth e then s (s e) else if z = s e then e else if z = s (s (oth e)) then s e else if z = e then s (s (oth e)) else s z
end
end CY

set_option linter.all false
set_option Elab.async false
set_option maxRecDepth 100000
set_option maxHeartbeats 4000000
namespace CY
open FW
open Classical
section
variable {K K' : List Int} {f f' s s' : Int → Int} {m : Nat}
def insa (f : Int → Int) (a n : Int) : Int → Int := fun z => if z = a then n else if z = n then f a else f z
def insb (f : Int → Int) (p n : Int) : Int → Int := fun z => if z = n then p else if f z = p then n else f z
/-- six new ends -/
structure New (K : List Int) (n0 n1 n2 n3 n4 n5 : Int) : Prop where
  k : n0 ∉ K ∧ n1 ∉ K ∧ n2 ∉ K ∧ n3 ∉ K ∧ n4 ∉ K ∧ n5 ∉ K
  d0 : n0 ≠ n1 ∧ n0 ≠ n2 ∧ n0 ≠ n3 ∧ n0 ≠ n4 ∧ n0 ≠ n5
  d1 : n1 ≠ n2 ∧ n1 ≠ n3 ∧ n1 ≠ n4 ∧ n1 ≠ n5
  d2 : n2 ≠ n3 ∧ n2 ≠ n4 ∧ n2 ≠ n5
  d3 : n3 ≠ n4 ∧ n3 ≠ n5
  d4 : n4 ≠ n5
  o : oth n0 = n1 ∧ oth n1 = n0 ∧ oth n2 = n3 ∧ oth n3 = n2 ∧ oth n4 = n5 ∧ oth n5 = n4
def blowF (s : Int → Int) (e n0 n1 n2 n3 n4 n5 : Int) : Int → Int := fun z =>
  if z = n3 then s (s e) else if z = n4 then n3 else if z = s (s e) then n4 else
  if z = n1 then s e else if z = n2 then n1 else if z = s e then n2 else
  if z = n5 then e else if z = n0 then n5 else if z = e then n0 else s z
end
end CY

set_option linter.all false
set_option Elab.async false
set_option maxRecDepth 100000
set_option maxHeartbeats 4000000
namespace CY
open FW
open Classical
section
variable {K K' : List Int} {f f' s s' : Int → Int} {m : Nat}
/-- an end's place is taken by a new one, and it stands with two new ones -/
def hlf (s : Int → Int) (p h a b : Int) : Int → Int := fun z => if z = p then a else if z = a then b else if z = b then p else if z = h then s p else if s z = p then h else s z
def partF (s : Int → Int) (p q n0 n1 n2 n3 n4 n5 : Int) : Int → Int := hlf (hlf s p n1 n4 n0) q n3 n5 n2
end
end CY

set_option linter.all false
set_option Elab.async false
set_option maxRecDepth 100000
set_option maxHeartbeats 4000000
namespace CY
open FW
open Classical
section
variable {K K' K1 K2 : List Int} {f f' s s' : Int → Int} {m : Nat}
/-- corners of three -/
structure Tr (K : List Int) (s : Int → Int) : Prop where
  nd : K.Nodup
  mp : ∀ x ∈ K, s x ∈ K
  tri : ∀ x ∈ K, s x ≠ x ∧ s (s (s x)) = x
theorem Wv.tr (W : Wv K s m) : Tr K s := ⟨W.g.mp.nd, W.g.mp.mp, W.tri⟩
theorem Tr.inj (T : Tr K s) {x y : Int} (hx : x ∈ K) (hy : y ∈ K) (h : s x = s y) : x = y := by rw [← (T.tri x hx).2, ← (T.tri y hy).2, h]
theorem Tr.cor (T : Tr K s) {e : Int} (he : e ∈ K) : s e ∈ K ∧ s (s e) ∈ K ∧ s e ≠ e ∧ s (s e) ≠ e ∧ s (s e) ≠ s e ∧ s (s (s e)) = e := by
  have t := T.tri e he
  have h1 := T.mp e he
  refine ⟨h1, T.mp _ h1, t.1, fun z => ?_, (T.tri _ h1).1, t.2⟩
  have := t.2
  rw [z] at this
  exact t.1 this
/-- x and y are the two ends that stand with g -/
def Left (s : Int → Int) (g x y : Int) : Prop := (s g = x ∧ s (s g) = y) ∨ (s g = y ∧ s (s g) = x)
end
end CY

set_option linter.all false
set_option Elab.async false
set_option maxRecDepth 100000
set_option maxHeartbeats 4000000
noncomputable section
namespace FS
open PySem L2 FW CY
/-! webs as they stand in dicts -/
def sg (w : Wb) : Int → Int := fun x => (valI w x).getD x
theorem val_sg {w : Wb} {x : Int} (h : x ∈ keysI w) : valI w x = some (sg w x) := by
  unfold sg
  cases q : valI w x with
  | none => exact absurd h (valI_none.mp q)
  | some v => rfl
theorem sg_of {w : Wb} {x v : Int} (h : valI w x = some v) : sg w x = v := by unfold sg; rw [h]; rfl
structure Wd (w : Wb) (m : Nat) : Prop where
  wv : Wv (keysI w) (sg w) m
  len : w.length ≤ 100000
theorem klen {w : Wb} : (keysI w).length = w.length := by simp [keysI]
theorem Wd.nd {w : Wb} {m : Nat} (W : Wd w m) : (keysI w).Nodup := W.wv.g.mp.nd
/-! the words of numbers in tuples and lists -/
theorem inV_ints {k : Int} {ns : List Int} : inV (.int k) (ns.map V.int) = decide (k ∈ ns) := by
  unfold inV
  induction ns with
  | nil => rfl
  | cons n ns ih =>
    rw [List.map_cons, List.any_cons, ih]
    by_cases h : k = n
    · subst h; simp [eqV]
    · have h' : ¬ n = k := fun z => h z.symm
      simp [h, h', eqV]
theorem at_ints {ns : List Int} : (ns.map D.int).all D.at = true := by simp [D.at]
theorem v_ints {ns : List Int} : (ns.map D.int).map D.v = ns.map V.int := by simp [D.v]
theorem inD_tup {k : Int} {ns : List Int} : inD (.int k) (.tup (ns.map D.int)) = some (decide (k ∈ ns)) := by
  unfold inD
  simp only [at_ints, v_ints, D.at, Bool.and_self, if_true]
  rw [show (D.int k).v = V.int k from rfl, inV_ints]
theorem inD_t3 {k a b c : Int} : inD (.int k) (.tup [.int a, .int b, .int c]) = some (decide (k ∈ [a, b, c])) := inD_tup (ns := [a, b, c])
section
variable {w : Wb} {m : Nat}
theorem F_req_end_w {e : Int} (he : e ∈ keysI w) : F_require_end [.dic (dw w), .int e] = some ⟨.non, false⟩ := by
  unfold F_require_end
  rw [fnD_a]
  unfold S_require_end
  simp [valD_dw, val_sg he]
theorem F_corner_w {e : Int} (he : e ∈ keysI w) (h2 : sg w e ∈ keysI w) : F_corner [.dic (dw w), .int e] = some ⟨.tup [.int e, .int (sg w e), .int (sg w (sg w e))], false⟩ := by
  unfold F_corner
  rw [fnD_a]
  unfold S_corner
  simp [valD_dw, val_sg he, val_sg h2, F_req_end_w he, show 3 ≤ lim from by decide]
/-! pushes -/
def pushW (w : Wb) (e : Int) : Wb := put3 (put3 w e (sg w (sg w e)) (sg w (oth e))) (oth e) (sg w (sg w (oth e))) (sg w e)
def pullW (w : Wb) (e : Int) : Wb := put3 (put3 w e (sg w (sg w (oth e))) (sg w e)) (oth e) (sg w (sg w e)) (sg w (oth e))
structure Ins (w : Wb) (e : Int) : Prop where
  ie : e ∈ keysI w
  ia : sg w e ∈ keysI w
  ib : sg w (sg w e) ∈ keysI w
  io : oth e ∈ keysI w
  ic : sg w (oth e) ∈ keysI w
  id : sg w (sg w (oth e)) ∈ keysI w
theorem Wd.ins (W : Wd w m) {e : Int} (he : e ∈ keysI w) : Ins w e := by
  have M := W.wv.g.mp
  have ho := M.ot e he
  exact ⟨he, M.mp _ he, M.mp _ (M.mp _ he), ho, M.mp _ ho, M.mp _ (M.mp _ ho)⟩
/-- a film that does not lead back -/
def Free (w : Wb) (e : Int) : Prop := sg w e ≠ oth e ∧ sg w (sg w e) ≠ oth e
theorem join_c {u : Wb} {a b c : Int} (h : u.length ≤ 100000 + 20) : F_join [.dic (dw u), .int a, .int b, .int c] = some (.dic (dw (put3 u a b c))) := F_join_w (by unfold lim; omega)
end
end FS
end

set_option linter.all false
set_option Elab.async false
set_option maxRecDepth 100000
set_option maxHeartbeats 4000000
noncomputable section
namespace FS
open PySem L2 FW CY
section
variable {w : Wb} {m : Nat}
/-! rims -/
abbrev ri (w : Wb) : Int → Int := ph (sg w)
theorem Wd.pm (W : Wd w m) : Pm (keysI w) (ri w) := W.wv.g.mp.ph
def IsPer (w : Wb) (e : Int) (n : Nat) : Prop := 0 < n ∧ n ≤ w.length ∧ itr (ri w) n e = e ∧ ∀ i, 0 < i → i < n → itr (ri w) i e ≠ e
open Classical in
def perN (w : Wb) (e : Int) : Nat := if h : ∃ n, IsPer w e n then Classical.choose h else 0
def rimL (w : Wb) (e : Int) : List Int := path (ri w) (perN w e) e
/-! what is built by puts -/
def fp (l : Wb) : Wb := l.foldl (fun acc p => putI acc p.1 p.2) []
/-! mending -/
def mendL (w : Wb) (g x y : Int) : Wb := ((keysI w).filter fun k => decide (k ∉ [g, x, y])).map fun k => (if k = oth y then x else k, if sg w k = oth y then x else sg w k)
end
end FS
end

set_option linter.all false
set_option Elab.async false
set_option maxRecDepth 100000
set_option maxHeartbeats 4000000
noncomputable section
namespace FS
open PySem L2 FW CY
section
variable {w : Wb} {m : Nat}
abbrev lo (w : Wb) (g : Int) : Int := min (sg w g) (sg w (sg w g))
abbrev hi (w : Wb) (g : Int) : Int := max (sg w g) (sg w (sg w g))
/-- one end is taken out, what is left is mended -/
def mendW (w : Wb) (g : Int) : Wb := mendL w g (lo w g) (hi w g)
/-- some ends are taken out -/
def cutW (w : Wb) (L : List Int) : Wb := ((keysI w).filter fun k => decide (k ∉ L)).map fun k => (k, sg w k)
/-- the web without a film -/
def stem (w : Wb) (e : Int) : Int := if sg w e = oth e then sg w (oth e) else sg w e
open Classical in
def burstW (w : Wb) (e : Int) : Wb := if Free w e then mendW (mendW w e) (oth e) else mendW (cutW w [e, oth e, stem w e]) (oth (stem w e))
/-- all that is known where a film bursts that does not lead back -/
structure BFree (w : Wb) (e : Int) : Prop where
  p1 : oth (hi w e) ∈ keysI w ∧ oth (hi w e) ≠ e ∧ oth (hi w e) ≠ lo w e
  o1 : oth e ∈ keysI (mendW w e)
  t1 : Tr (keysI (mendW w e)) (sg (mendW w e))
  p2 : oth (hi (mendW w e) (oth e)) ∈ keysI (mendW w e) ∧ oth (hi (mendW w e) (oth e)) ≠ oth e ∧ oth (hi (mendW w e) (oth e)) ≠ lo (mendW w e) (oth e)
/-- .. and where it leads back -/
structure BLoop (w : Wb) (e : Int) : Prop where
  st : stem w e ∈ keysI w ∧ stem w e ≠ e ∧ stem w e ≠ oth e
  cor : (sg w e = oth e ∧ sg w (sg w e) = stem w e) ∨ (sg w e = stem w e ∧ sg w (sg w e) = oth e)
  t1 : Tr (keysI (cutW w [e, oth e, stem w e])) (sg (cutW w [e, oth e, stem w e]))
  o1 : oth (stem w e) ∈ keysI (cutW w [e, oth e, stem w e])
  p2 : oth (hi (cutW w [e, oth e, stem w e]) (oth (stem w e))) ∈ keysI (cutW w [e, oth e, stem w e]) ∧ oth (hi (cutW w [e, oth e, stem w e]) (oth (stem w e))) ≠ oth (stem w e) ∧
    oth (hi (cutW w [e, oth e, stem w e]) (oth (stem w e))) ≠ lo (cutW w [e, oth e, stem w e]) (oth (stem w e))
end
end FS
end

set_option linter.all false
set_option Elab.async false
set_option maxRecDepth 100000
set_option maxHeartbeats 4000000
noncomputable section
namespace FS
open PySem L2 FW CY
section
variable {w : Wb} {m : Nat}
theorem sepR_t3 {ds : List (D × Bool)} {a b c : Int} : sepR ds ⟨.tup [.int a, .int b, .int c], false⟩ = true := by
  unfold sepR
  simp [sep, seps]
theorem lc_filter {i : Nat} {p : Int → Bool} {te : EX} {tt : BX} {j : Nat} {env : En} {d : D} {ns : List Int} (h0 : env[i]? = some (.pu d)) (h1 : itemsD d = some (ns.map D.int)) (hl : ns.length ≤ lim)
    (h : ∀ k ∈ ns, tt ((wipeE env [j]).set j (.pu (.int k))) = some (.bl (p k)) ∧ te ((wipeE env [j]).set j (.pu (.int k))) = some ⟨.int k, false⟩) : eLcV i (gdName j) tt te [j] env = some ⟨.lst ((ns.filter p).map D.int), true⟩ := by
  rw [eLcV_a, h0]
  simp only [h1, Option.bind_some]
  unfold lcD
  rw [if_pos (by rw [List.length_map]; exact hl), lcGo_of (p := fun d => match d with | .int k => p k | _ => false) (w := fun d => d) fun x hx => ?_]
  · rw [List.filter_map, List.map_map]
    rfl
  · obtain ⟨k, hk, rfl⟩ := List.mem_map.mp hx
    obtain ⟨a, b⟩ := h k hk
    exact ⟨_, rfl, a, fun _ => ⟨false, b⟩⟩
/-! blowing -/
def blowW (w : Wb) (e n : Int) : Wb := put3 (put3 (put3 w e n (n + 5)) (sg w e) (n + 2) (n + 1)) (sg w (sg w e)) (n + 4) (n + 3)
end
end FS
end

set_option linter.all false
set_option Elab.async false
set_option maxRecDepth 100000
set_option maxHeartbeats 4000000
noncomputable section
namespace FS
open PySem L2 FW CY
section
variable {w u : Wb} {m : Nat}
def halfW (u : Wb) (p h a b : Int) : Wb := put3 (put3 u h (sg u p) (sg u (sg u p))) p a b
end
end FS
end

set_option linter.all false
set_option Elab.async false
set_option maxRecDepth 100000
set_option maxHeartbeats 400000
noncomputable section
namespace FS
open PySem L2 FW CY
section
variable {w u : Wb} {m : Nat}
def partW (w : Wb) (one two n : Int) : Wb := halfW (halfW w (oth one) (n + 1) (n + 4) n) (oth two) (n + 3) (n + 5) (n + 2)
structure PartOk (w : Wb) (one two n : Int) (m : Nat) : Prop where
  t1 : Tr (keysI (halfW w (oth one) (n + 1) (n + 4) n)) (sg (halfW w (oth one) (n + 1) (n + 4) n))
  q1 : oth two ∈ keysI (halfW w (oth one) (n + 1) (n + 4) n)
  wd : Wd (partW w one two n) (m + 1)
  len : (partW w one two n).length = w.length + 6
  mem : ∀ z, z ∈ keysI (partW w one two n) ↔ z ∈ keysI w ∨ z = n ∨ z = n + 1 ∨ z = n + 2 ∨ z = n + 3 ∨ z = n + 4 ∨ z = n + 5
  ns : ¬ Sm (keysI (partW w one two n)) (ri (partW w one two n)) one two
end
end FS
end

set_option linter.all false
set_option Elab.async false
set_option maxRecDepth 100000
set_option maxHeartbeats 1000000
noncomputable section
namespace FS
open PySem L2 FW CY
section
variable {w u : Wb} {m : Nat}
end
end FS
end

set_option linter.all false
set_option Elab.async false
set_option maxRecDepth 100000
set_option maxHeartbeats 1000000
noncomputable section
namespace FS
open PySem L2 FW CY
section
variable {w : Wb} {m : Nat}
/-! all rims -/
open Classical in
def rimsGo (w : Wb) : List Int → List Int → List (List Int)
  | [], _ => []
  | e :: es, P => if e ∈ P then rimsGo w es P else rimL w e :: rimsGo w es ((rimL w e).foldl addI P)
def rimsL (w : Wb) : List (List Int) := rimsGo w (srt (keysI w)) []
def rimD (l : List Int) : D := .lst (l.map D.int)
theorem Wd.ne (W : Wd w m) : w ≠ [] := fun z => by
  have h1 := W.wv.six
  have h2 := W.wv.pos
  rw [z] at h1
  simp at h1
  omega
end
end FS
end

set_option linter.all false
set_option Elab.async false
set_option maxRecDepth 100000
set_option maxHeartbeats 1000000
noncomputable section
namespace FS
open PySem L2 FW CY
section
variable {w : Wb} {m : Nat}
theorem bAnd_t {x y : BX} {env : En} (h : x env = some (.bl true)) : bAnd x y env = y env := by rw [bAnd_a, h]; rfl
theorem bAnd_f {x y : BX} {env : En} (h : x env = some (.bl false)) : bAnd x y env = some (.bl false) := by rw [bAnd_a, h]; rfl
theorem okS_c {s : Int} (h1 : 0 < s) (h2 : s < 10000000) : FA.okS s = true := by
  unfold FA.okS
  rw [decide_eq_true (by omega : s ≠ 0), decide_eq_true (lt_big (by omega) : s.natAbs < big)]; rfl
/-- a web as the law draws it -/
structure WI (w : Wb) (f : Int) : Prop where
  wd : ∃ m, Wd w m
  bnd : ∀ x ∈ keysI w, 0 ≤ x ∧ x < 2 * f
  len : w.length ≤ 346
theorem srt_mem {x : Int} {K : List Int} : x ∈ srt K ↔ x ∈ K := (srt_perm K).mem_iff
end
end FS
end

set_option linter.all false
set_option Elab.async false
set_option maxRecDepth 100000
set_option maxHeartbeats 1000000
noncomputable section
namespace FS
open PySem L2 FW CY
section
variable {w : Wb} {m : Nat}
def renW (w : Wb) (r : Int → Int) : Wb := (keysI w).map fun k => (r k, r (sg w k))
/-! the numbers of the law -/
def newF (b k : Int) : Int := (k / 2 * (b + 1)) % 498989
def renF (b t k : Int) : Int := 2 * newF b k + (k + (newF b k + t) / 2 % 2) % 2
end
end FS
end

set_option linter.all false
set_option Elab.async false
set_option maxRecDepth 100000
set_option maxHeartbeats 1000000
noncomputable section
namespace FS
open PySem L2 FW CY
section
variable {w : Wb} {m : Nat}
/-- a web as the laws hand it on -/
structure Dr (w : Wb) (m : Nat) : Prop where
  wd : Wd w m
  len : w.length ≤ 346
  rng : ∀ x ∈ keysI w, 0 ≤ x ∧ x < 1000000
/-! the web of a script -/
theorem cell_c (ns : List Int) (i : Int) (h : 0 ≤ i) : FA.F_cell [.lst (ns.map D.int), .int i] = some ⟨.int (FA.cellL ns i.toNat), false⟩ := by
  simp [FA.F_cell, FA.intsD_map, h]
end
end FS
end

set_option linter.all false
set_option Elab.async false
set_option maxRecDepth 100000
set_option maxHeartbeats 1000000
noncomputable section
namespace FS
open PySem L2 FW CY
/-! there and back: six ends in their places -/
def hx (s : Int → Int) (e o a b c d : Int) : Int → Int := fun x => if x = e then a else if x = a then b else if x = b then e else if x = o then c else if x = c then d else if x = d then o else s x
structure Ds (e o a b c d : Int) : Prop where
  n1 : e ≠ o ∧ e ≠ a ∧ e ≠ b ∧ e ≠ c ∧ e ≠ d
  n2 : o ≠ a ∧ o ≠ b ∧ o ≠ c ∧ o ≠ d
  n3 : a ≠ b ∧ a ≠ c ∧ a ≠ d ∧ b ≠ c ∧ b ≠ d ∧ c ≠ d
theorem hx_v {s : Int → Int} {e o a b c d : Int} (D : Ds e o a b c d) : hx s e o a b c d e = a ∧ hx s e o a b c d a = b ∧ hx s e o a b c d b = e ∧ hx s e o a b c d o = c ∧ hx s e o a b c d c = d ∧ hx s e o a b c d d = o := by
  obtain ⟨h1, h2, h3⟩ := D
  unfold hx
  grind
section
variable {w : Wb} {m : Nat}
structure Hx (w : Wb) (K : List Int) (s : Int → Int) (e a b c d : Int) : Prop where
  keys : keysI w = K
  v : ∀ x ∈ K, sg w x = hx s e (oth e) a b c d x
  ds : Ds e (oth e) a b c d
  ins : e ∈ K ∧ oth e ∈ K ∧ a ∈ K ∧ b ∈ K ∧ c ∈ K ∧ d ∈ K
theorem Hx.six {K : List Int} {s : Int → Int} {e a b c d : Int} (H : Hx w K s e a b c d) : sg w e = a ∧ sg w a = b ∧ sg w (oth e) = c ∧ sg w c = d ∧ Free w e := by
  obtain ⟨k, v, D, i1, i2, i3, i4, i5, i6⟩ := H
  obtain ⟨q1, q2, q3, q4, q5, q6⟩ := hx_v (s := s) D
  have r1 := (v _ i1).trans q1
  have r2 := (v _ i3).trans q2
  refine ⟨r1, r2, (v _ i2).trans q4, (v _ i5).trans q5, ?_, ?_⟩
  · rw [r1]; exact fun z => D.n2.1 z.symm
  · rw [r1, r2]; exact fun z => D.n2.2.1 z.symm
def tw (f k : Int) : Int := if k / 2 = f then oth k else k
end
end FS
end

set_option linter.all false
set_option Elab.async false
set_option maxRecDepth 100000
set_option maxHeartbeats 1000000
noncomputable section
namespace FS
open PySem L2 FW CY
section
variable {w : Wb} {m : Nat}
def lpB (w : Wb) (f : Int) : Bool := decide (2 * f + 1 = sg w (2 * f) ∨ 2 * f + 1 = sg w (sg w (2 * f)))
end
end FS
end

set_option linter.all false
set_option Elab.async false
set_option maxRecDepth 100000
set_option maxHeartbeats 1000000
noncomputable section
namespace FV
open PySem L2 FW
def S_reached_ends (F_other : List D → Option RV) : SX := sSeq (sSet 1 (eB (bn fMinA (abCons (bVar 0) aNil)))) (sSeq (sSet 2 (eDisp1 (bVar 1) (eB (cst (.bl true))))) (sSeq (sSet 3 (eLst (aCons (eVar 1) aNil))) (sSeq (sWhile (b1 fTru (bVar 3)) (sSeq (sPop 4 3) (sFor (srcT (eTup (aCons (eCallB 1 F_other (gV 4 gNone)) (aCons (eIx (bVar 0) (bVar 4)) aNil)))) (gdName 5) (sIf (b2 fNotIn (bVar 5) (bVar 2)) (sSeq (sDput 2 (bVar 5) (eB (cst (.bl true)))) (sAppend 3 (eVar 5))) sNext)))) (sRetV 2))))
def S_end_fault (F_other : List D → Option RV) (F_comes_round : List D → Option RV) : SX := sSeq (sSet 1 (eLcV 0 (gdName 4) (b2 fNotIn (bE (eCallN 1 F_other (aCons (eVar 4) aNil))) (bVar 0)) (eVar 4) [4])) (sSeq (sIf (b1 fTru (bVar 1)) (sRet (eTup (aCons (eB (cst (.str "lone"))) (aCons (eB (bn fMinS (abCons (bVar 1) aNil))) aNil)))) sNext) (sSeq (sSet 2 (eLcV 0 (gdName 4) (b2 fNotIn (bE (eIx (bVar 0) (bVar 4))) (bVar 0)) (eVar 4) [4])) (sSeq (sIf (b1 fTru (bVar 2)) (sRet (eTup (aCons (eB (cst (.str "astray"))) (aCons (eB (bn fMinS (abCons (bVar 2) aNil))) aNil)))) sNext) (sSeq (sSet 3 (eLcV 0 (gdName 4) (bNot (bE (eCallN 2 F_comes_round (aCons (eVar 0) (aCons (eVar 4) aNil))))) (eVar 4) [4])) (sSeq (sIf (b1 fTru (bVar 3)) (sRet (eTup (aCons (eB (cst (.str "corner"))) (aCons (eB (bn fMinS (abCons (bVar 3) aNil))) aNil)))) sNext) (sRet (eB (cst .non))))))))
def S_whole_fault (F_reached_ends : List D → Option RV) (F_rims : List D → Option RV) : SX := sSeq (sSet 1 (eCallN 1 F_reached_ends (aCons (eVar 0) aNil))) (sSeq (sSet 2 (eLcV 0 (gdName 4) (b2 fNotIn (bVar 4) (bVar 1)) (eVar 4) [4])) (sSeq (sIf (b1 fTru (bVar 2)) (sRet (eTup (aCons (eB (cst (.str "apart"))) (aCons (eB (bn fMinS (abCons (bVar 2) aNil))) aNil)))) sNext) (sSeq (sSet 3 (eB (bn fLen (abCons (bE (eCallN 1 F_rims (aCons (eVar 0) aNil))) aNil)))) (sSeq (sIf (b2 fNe (b2 fMul (cst (.int 6)) (bVar 3)) (bn fLen (abCons (bVar 0) aNil))) (sRet (eTup (aCons (eB (cst (.str "glasses"))) (aCons (eVar 3) aNil)))) sNext) (sRet (eB (cst .non)))))))
def S_web_fault (F_end_fault : List D → Option RV) (F_whole_fault : List D → Option RV) : SX := sSeq (sIf (bNot (b1 fTru (bVar 0))) (sRet (eTup (aCons (eB (cst (.str "none"))) (aCons (eB (cst (.int 0))) aNil)))) sNext) (sSeq (sSet 1 (eCallN 1 F_end_fault (aCons (eVar 0) aNil))) (sSeq (sIf (b1 fNotN (bVar 1)) (sRetV 1) sNext) (sRet (eCallN 1 F_whole_fault (aCons (eVar 0) aNil)))))
def F_reached_ends : List D → Option RV := fnD 6 (S_reached_ends FW.F_other) fuel
def F_end_fault : List D → Option RV := fnD 5 (S_end_fault FW.F_other FS.F_comes_round) fuel
def F_whole_fault : List D → Option RV := fnD 5 (S_whole_fault F_reached_ends FS.F_rims) fuel
def F_web_fault : List D → Option RV := fnD 2 (S_web_fault F_end_fault F_whole_fault) fuel
end FV
namespace FS
open PySem L2 FW CY
/-! the program's rims -/
section
variable {w : Wb} {m : Nat}
def V_re : SX := sIf (b2 fNotIn (bVar 5) (bVar 2)) (sSeq (sDput 2 (bVar 5) (eB (cst (.bl true)))) (sAppend 3 (eVar 5))) sNext
def B_re : SX := sSeq (sPop 4 3) (sFor (srcT (eTup (aCons (eCallB 1 F_other (gV 4 gNone)) (aCons (eIx (bVar 0) (bVar 4)) aNil)))) (gdName 5) V_flood)
end
end FS
end

set_option linter.all false
set_option Elab.async false
set_option maxRecDepth 100000
set_option maxHeartbeats 1000000
noncomputable section
namespace FS
open PySem L2 FW CY
section
variable {w : Wb} {m : Nat}
/-! dicts that lose an end -/
def delI (u : Wb) (k : Int) : Wb := u.filter fun p => decide (p.1 ≠ k)
theorem dropD_dw {u : Wb} {k : Int} : dropD (dw u) (.inl k) = dw (delI u k) := by
  unfold dropD delI dw
  rw [List.filter_map]
  congr 1
  refine List.filter_congr fun p _ => ?_
  simp [Function.comp, inl_eq]
theorem delI_keys {u : Wb} {k : Int} : keysI (delI u k) = (keysI u).filter fun x => decide (x ≠ k) := by
  unfold delI keysI
  rw [List.filter_map]
  rfl
theorem delI_nd {u : Wb} {k : Int} (h : (keysI u).Nodup) : (keysI (delI u k)).Nodup := by rw [delI_keys]; exact List.Pairwise.filter _ h
theorem delI_len {u : Wb} {k : Int} : (delI u k).length ≤ u.length := List.length_filter_le _ _
theorem delI_val {u : Wb} {k x : Int} : valI (delI u k) x = if x = k then none else valI u x := by
  unfold valI delI
  rw [List.find?_filter]
  by_cases h : x = k
  · rw [if_pos h]
    subst h
    have : u.find? (fun p => decide (p.1 ≠ x) && decide (p.1 = x)) = none := List.find?_eq_none.mpr fun p _ => by simp
    first | rw [this]; rfl | simp
  · rw [if_neg h]
    congr 1
    refine congrArg (fun q => List.find? q u) (funext fun p => ?_)
    by_cases e : p.1 = x <;> simp [e, h]
theorem val_some {u : Wb} {x v : Int} (h : valI u x = some v) : x ∈ keysI u := by
  by_cases q : x ∈ keysI u
  · exact q
  · rw [valI_none.mpr q] at h; cases h
theorem F_corner_v {u : Wb} {e a b : Int} (h1 : valI u e = some a) (h2 : valI u a = some b) : F_corner [.dic (dw u), .int e] = some ⟨.tup [.int e, .int a, .int b], false⟩ := by
  have e1 := sg_of h1
  have e2 := sg_of h2
  have := F_corner_w (w := u) (val_some h1) (by rw [e1]; exact val_some h2)
  rw [e1, e2] at this
  exact this
theorem slice_t3 {x : BX} {env : En} {a b c : D} (h : x env = some (.tup [a, b, c])) : eSlice x (oInt (cst (.int 1))) oNone env = some ⟨.tup [b, c], false⟩ := by
  unfold eSlice
  rw [h]
  rfl
theorem F_take_w {u : Wb} {k p s t : Int} (h1 : valI u p = some s) (h2 : valI u s = some t) (hl : u.length ≤ 100010) : F_take_place [.dic (dw u), .int k, .int p] = some (.dic (dw (put3 (delI u p) k s t))) := by
  have c := F_corner_v h1 h2
  have j := join_c (u := delI u p) (a := k) (b := s) (c := t) (Nat.le_trans delI_len (by omega))
  unfold F_take_place
  rw [fnM_a]
  unfold S_take_place
  have sl : eSlice (bE (eCallB 2 F_corner (gV 0 (gV 2 gNone)))) (oInt (cst (.int 1))) oNone [.bo (.dic (dw u)), .pu (.int k), .pu (.int p), .un, .un] = some ⟨.tup [.int s, .int t], false⟩ := slice_t3 (a := .int p) (by simp [c, sepR_t3])
  have a1 : sAsg (eSlice (bE (eCallB 2 F_corner (gV 0 (gV 2 gNone)))) (oInt (cst (.int 1))) oNone) (gdSeq [3, 4]) fuel [.bo (.dic (dw u)), .pu (.int k), .pu (.int p), .un, .un] = some (.nx [.bo (.dic (dw u)), .pu (.int k), .pu (.int p), .pu (.int s), .pu (.int t)]) := by
    rw [sAsg_a, sl]; simp
  have all : (sSeq (sAsg (eSlice (bE (eCallB 2 F_corner (gV 0 (gV 2 gNone)))) (oInt (cst (.int 1))) oNone) (gdSeq [3, 4])) (sSeq (sDdel 0 (bVar 2)) (sCallM 0 4 FW.F_join (aCons (eVar 1) (aCons (eVar 3) (aCons (eVar 4) aNil)))))) fuel [.bo (.dic (dw u)), .pu (.int k), .pu (.int p), .un, .un] = some (.nx [.bo (.dic (dw (put3 (delI u p) k s t))), .pu (.int k), .pu (.int p), .pu (.int s), .pu (.int t)]) := by
    refine (sSeq_nx a1).trans ((sSeq_nx (e := [.bo (.dic (dw (delI u p))), .pu (.int k), .pu (.int p), .pu (.int s), .pu (.int t)]) ?_).trans ?_)
    · simp [valD_dw, h1, dropD_dw, ownD, setMu]
    · simp [j, ownD, setMu]
  have e0 : (Sl.bo (D.dic (dw u)) :: (List.map Sl.pu [D.int k, D.int p] ++ List.replicate (5 - ([D.int k, D.int p].length + 1)) Sl.un)) = [.bo (.dic (dw u)), .pu (.int k), .pu (.int p), .un, .un] := rfl
  rw [e0, all]
  rfl
def del3 (u : Wb) (a b c : Int) : Wb := delI (delI (delI u a) b) c
theorem del3_val {u : Wb} {a b c x : Int} : valI (del3 u a b c) x = if x = c then none else if x = b then none else if x = a then none else valI u x := by
  unfold del3
  rw [delI_val, delI_val, delI_val]
def mendP (u : Wb) (g k l s t : Int) : Wb := put3 (delI (del3 u g k l) (oth l)) k s t
theorem mendP_val {u : Wb} {g k l s t x : Int} : valI (mendP u g k l s t) x = if x = t then some k else if x = s then some t else if x = k then some s else if x = oth l then none else if x = l then none else if x = k then none else if x = g then none else valI u x := by
  unfold mendP
  rw [put3_val, delI_val, del3_val]
theorem mendP_nd {u : Wb} {g k l s t : Int} (h : (keysI u).Nodup) : (keysI (mendP u g k l s t)).Nodup := put3_nodup (delI_nd (delI_nd (delI_nd (delI_nd h))))
theorem del3_len {u : Wb} {a b c : Int} : (del3 u a b c).length ≤ u.length := Nat.le_trans delI_len (Nat.le_trans delI_len delI_len)
theorem mendP_len {u : Wb} {g k l s t : Int} : (mendP u g k l s t).length ≤ u.length + 3 := Nat.le_trans put3_len (Nat.add_le_add_right (Nat.le_trans delI_len del3_len) 3)
theorem F_mend_w {u : Wb} {g a b k l s t : Int} (h1 : valI u g = some a) (h2 : valI u a = some b) (hkl : (a = k ∧ b = l) ∨ (a = l ∧ b = k)) (lt : k < l) (ng : g ≠ k ∧ g ≠ l) (hb : ∃ z, valI u b = some z) (h3 : valI (del3 u g k l) (oth l) = some s) (h4 : valI (del3 u g k l) s = some t) (hl : u.length ≤ 100010) :
    F_mend [.dic (dw u), .int g] = some (.dic (dw (mendP u g k l s t))) := by
  have c := F_corner_v h1 h2
  have tk := F_take_w (k := k) h3 h4 (Nat.le_trans del3_len hl)
  have vk : ∃ z, valI u k = some z := by
    obtain ⟨z, hz⟩ := hb
    rcases hkl with ⟨rfl, rfl⟩ | ⟨rfl, rfl⟩
    · exact ⟨_, h2⟩
    · exact ⟨_, hz⟩
  have vl : ∃ z, valI u l = some z := by
    obtain ⟨z, hz⟩ := hb
    rcases hkl with ⟨rfl, rfl⟩ | ⟨rfl, rfl⟩
    · exact ⟨_, hz⟩
    · exact ⟨_, h2⟩
  obtain ⟨zk, vk⟩ := vk
  obtain ⟨zl, vl⟩ := vl
  have mn : fMinS [.tup [.int a, .int b]] = some (.int k) := by
    have : minI [a, b] = k := (min_uniq (ns := [a, b]) (by simp) (by rcases hkl with ⟨rfl, rfl⟩ | ⟨rfl, rfl⟩ <;> simp) (by intro y hy; simp at hy; omega)).symm
    unfold fMinS numsD
    simp [FW.intsD, this]
  have mx : fMaxS [.tup [.int a, .int b]] = some (.int l) := by
    have : maxI [a, b] = l := (max_uniq (ns := [a, b]) (by simp) (by rcases hkl with ⟨rfl, rfl⟩ | ⟨rfl, rfl⟩ <;> simp) (by intro y hy; simp at hy; omega)).symm
    unfold fMaxS numsD
    simp [FW.intsD, this]
  have sl : eSlice (bE (eCallB 2 F_corner (gV 0 (gV 1 gNone)))) (oInt (cst (.int 1))) oNone [.bo (.dic (dw u)), .pu (.int g), .un, .un, .un, .un] = some ⟨.tup [.int a, .int b], false⟩ := slice_t3 (a := .int g) (by simp [c, sepR_t3])
  have d1 : valI u g = some a := h1
  have d2 : valI (delI u g) k = some zk := by rw [delI_val, if_neg (fun z => ng.1 z.symm)]; exact vk
  have d3 : valI (delI (delI u g) k) l = some zl := by rw [delI_val, delI_val, if_neg (by omega), if_neg (fun z => ng.2 z.symm)]; exact vl
  unfold F_mend
  rw [fnM_a]
  have e0 : (Sl.bo (D.dic (dw u)) :: (List.map Sl.pu [D.int g] ++ List.replicate (6 - ([D.int g].length + 1)) Sl.un)) = [.bo (.dic (dw u)), .pu (.int g), .un, .un, .un, .un] := rfl
  have all : S_mend F_corner F_take_place FW.F_other fuel [.bo (.dic (dw u)), .pu (.int g), .un, .un, .un, .un] = some (.nx [.bo (.dic (dw (mendP u g k l s t))), .pu (.int g), .pu (.tup [.int a, .int b]), .pu (.int k), .pu (.int l), .pu (.int l)]) := by
    unfold S_mend
    refine (sSeq_nx (sSet_of sl)).trans ((sSeq_nx (e := [.bo (.dic (dw u)), .pu (.int g), .pu (.tup [.int a, .int b]), .pu (.int k), .un, .un]) (by simp [mn])).trans ((sSeq_nx (e := [.bo (.dic (dw u)), .pu (.int g), .pu (.tup [.int a, .int b]), .pu (.int k), .pu (.int l), .un]) (by simp [mx])).trans ((sSeq_nx (e := [.bo (.dic (dw (del3 u g k l))), .pu (.int g), .pu (.tup [.int a, .int b]), .pu (.int k), .pu (.int l), .pu (.int l)]) (sFor_of (ds := [.int g, .int k, .int l]) ?_ ?_)).trans ?_)))
    · simp [show 3 ≤ lim from by decide]
    · simp [loopF, valD_dw, d1, d2, d3, dropD_dw, ownD, setMu, del3]
    · simp [F_other_i, tk, ownD, setMu, mendP]
  rw [e0, all]
  rfl
end
end FS
end

set_option linter.all false
set_option Elab.async false
set_option maxRecDepth 100000
set_option maxHeartbeats 1000000
noncomputable section
namespace FS
open PySem L2 FW CY
section
variable {w : Wb} {m : Nat}
/-! a bubble blown and burst -/
structure Blw (u w : Wb) (x0 p0 q0 x1 p1 q1 x2 p2 q2 : Int) : Prop where
  v0 : valI u x0 = some p0 ∧ valI u p0 = some q0 ∧ valI u q0 = some x0
  v1 : valI u x1 = some p1 ∧ valI u p1 = some q1 ∧ valI u q1 = some x1
  v2 : valI u x2 = some p2 ∧ valI u p2 = some q2 ∧ valI u q2 = some x2
  el : ∀ x, x ≠ x0 → x ≠ p0 → x ≠ q0 → x ≠ x1 → x ≠ p1 → x ≠ q1 → x ≠ x2 → x ≠ p2 → x ≠ q2 → valI u x = valI w x
  w0 : valI w x0 = some x1 ∧ valI w x1 = some x2 ∧ valI w x2 = some x0
  wn : valI w p0 = none ∧ valI w q0 = none ∧ valI w p1 = none ∧ valI w q1 = none ∧ valI w p2 = none ∧ valI w q2 = none
  o : oth p0 = q1 ∧ oth p1 = q2 ∧ oth p2 = q0 ∧ oth q0 = p2 ∧ oth q1 = p0 ∧ oth q2 = p1
  dx : x0 ≠ x1 ∧ x0 ≠ x2 ∧ x1 ≠ x2
  lt0 : x0 < p0 ∧ x0 < p1 ∧ x0 < p2 ∧ x0 < q0 ∧ x0 < q1 ∧ x0 < q2
  lt1 : x1 < p0 ∧ x1 < p1 ∧ x1 < p2 ∧ x1 < q0 ∧ x1 < q1 ∧ x1 < q2
  lt2 : x2 < p0 ∧ x2 < p1 ∧ x2 < p2 ∧ x2 < q0 ∧ x2 < q1 ∧ x2 < q2
  dp : p0 ≠ p1 ∧ p0 ≠ p2 ∧ p1 ≠ p2 ∧ q0 ≠ q1 ∧ q0 ≠ q2 ∧ q1 ≠ q2 ∧ p0 ≠ q0 ∧ p0 ≠ q1 ∧ p0 ≠ q2 ∧ p1 ≠ q0 ∧ p1 ≠ q1 ∧ p1 ≠ q2 ∧ p2 ≠ q0 ∧ p2 ≠ q1 ∧ p2 ≠ q2
variable {u : Wb} {x0 p0 q0 x1 p1 q1 x2 p2 q2 : Int}
theorem Blw.burst (B : Blw u w x0 p0 q0 x1 p1 q1 x2 p2 q2) (nd : (keysI u).Nodup) (hl : u.length ≤ 100000) : ∃ u1 u2, F_mend [.dic (dw u), .int p0] = some (.dic (dw u1)) ∧ F_mend [.dic (dw u1), .int (oth p0)] = some (.dic (dw u2)) ∧ (keysI u2).Nodup ∧ ∀ x, valI u2 x = valI w x := by
  obtain ⟨⟨a1, a2, a3⟩, ⟨b1, b2, b3⟩, ⟨c1, c2, c3⟩, el, ⟨w1, w2, w3⟩, ⟨n1, n2, n3, n4, n5, n6⟩, ⟨o1, o2, o3, o4, o5, o6⟩, ⟨dx1, dx2, dx3⟩, lt0, lt1, lt2, dp⟩ := B
  have h1 : F_mend [.dic (dw u), .int p0] = some (.dic (dw (mendP u p0 x0 q0 q2 x2))) := F_mend_w a2 a3 (.inr ⟨rfl, rfl⟩) (by omega) ⟨by omega, dp.2.2.2.2.2.2.1⟩ ⟨_, a1⟩ (by
    rw [o4, del3_val, if_neg (by grind), if_neg (by omega), if_neg (by grind)]; exact c2) (by
    rw [del3_val, if_neg (by grind), if_neg (by omega), if_neg (by grind)]; exact c3) (by omega)
  have V : ∀ x, valI (mendP u p0 x0 q0 q2 x2) x = if x = x2 then some x0 else if x = q2 then some x2 else if x = x0 then some q2 else if x = p2 then none else if x = q0 then none else if x = x0 then none else if x = p0 then none else valI u x := fun x => by rw [mendP_val, o4]
  have l1 := mendP_len (u := u) (g := p0) (k := x0) (l := q0) (s := q2) (t := x2)
  have nd1 := mendP_nd (g := p0) (k := x0) (l := q0) (s := q2) (t := x2) nd
  generalize mendP u p0 x0 q0 q2 x2 = u1 at *
  have k1 : valI u1 q1 = some x1 := by rw [V, ← b3]; grind
  have k2 : valI u1 x1 = some p1 := by rw [V, ← b1]; grind
  have k3 : valI u1 p1 = some q1 := by rw [V, ← b2]; grind
  have k4 : valI u1 q2 = some x2 := by rw [V]; grind
  have k5 : valI u1 x2 = some x0 := by rw [V]; grind
  have h2 : F_mend [.dic (dw u1), .int (oth p0)] = some (.dic (dw (mendP u1 q1 x1 p1 x2 x0))) := by
    rw [o1]
    refine F_mend_w k1 k2 (.inl ⟨rfl, rfl⟩) (by omega) ⟨by omega, by grind⟩ ⟨_, k3⟩ ?_ ?_ (by omega)
    · rw [o2, del3_val, if_neg (by grind), if_neg (by omega), if_neg (by grind)]; exact k4
    · rw [del3_val, if_neg (by omega), if_neg (by grind), if_neg (by omega)]; exact k5
  refine ⟨u1, _, h1, h2, mendP_nd nd1, fun x => ?_⟩
  rw [mendP_val, o2]
  by_cases e1 : x = x0
  · rw [if_pos e1, e1, w1]
  rw [if_neg e1]
  by_cases e2 : x = x2
  · rw [if_pos e2, e2, w3]
  rw [if_neg e2]
  by_cases e3 : x = x1
  · rw [if_pos e3, e3, w2]
  rw [if_neg e3]
  by_cases e4 : x = q2
  · rw [if_pos e4, e4, n6]
  rw [if_neg e4]
  by_cases e5 : x = p1
  · rw [if_pos e5, e5, n3]
  rw [if_neg e5, if_neg e3]
  by_cases e6 : x = q1
  · rw [if_pos e6, e6, n4]
  rw [if_neg e6, V, if_neg e2, if_neg e4, if_neg e1]
  by_cases e7 : x = p2
  · rw [if_pos e7, e7, n5]
  rw [if_neg e7]
  by_cases e8 : x = q0
  · rw [if_pos e8, e8, n2]
  rw [if_neg e8, if_neg e1]
  by_cases e9 : x = p0
  · rw [if_pos e9, e9, n1]
  rw [if_neg e9]
  exact el x e1 e9 e8 e3 e5 e6 e2 e7 e4
end
end FS
end

set_option linter.all false
set_option Elab.async false
set_option maxRecDepth 100000
set_option maxHeartbeats 1000000
noncomputable section
namespace FS
open PySem L2 FW CY
section
variable {w u : Wb} {m : Nat}
/-! an end takes the place of another -/
def rn (p k y : Int) : Int := if y = p then k else y
/-- u holds the corners of s by the names of R, and the corners X -/
structure Is (u : Wb) (K : List Int) (s R : Int → Int) (X : List (Int × Int)) : Prop where
  nd : (keysI u).Nodup
  inj : ∀ x ∈ K, ∀ y ∈ K, R x = R y → x = y
  val : ∀ x ∈ K, valI u (R x) = some (R (s x))
  ext : ∀ p ∈ X, valI u p.1 = some p.2
  sep : ∀ p ∈ X, ∀ x ∈ K, R x ≠ p.1
  els : ∀ z, (∀ x ∈ K, R x ≠ z) → (∀ p ∈ X, p.1 ≠ z) → valI u z = none
structure Tri (K : List Int) (s : Int → Int) : Prop where
  mp : ∀ x ∈ K, s x ∈ K
  inj : ∀ x ∈ K, ∀ y ∈ K, s x = s y → x = y
  tri : ∀ x ∈ K, s x ≠ x ∧ s (s (s x)) = x
theorem Wd.tri (W : Wd w m) : Tri (keysI w) (sg w) := ⟨W.wv.g.mp.mp, W.wv.g.mp.inj, W.wv.tri⟩
variable {K : List Int} {s R : Int → Int} {X : List (Int × Int)}
theorem Is.key (I : Is u K s R X) {x : Int} (hx : x ∈ K) : R x ∈ keysI u := val_some (I.val x hx)
theorem Is.ext' {X' : List (Int × Int)} (I : Is u K s R X) (h : ∀ p, p ∈ X ↔ p ∈ X') : Is u K s R X' :=
  ⟨I.nd, I.inj, I.val, fun p hp => I.ext p ((h p).mpr hp), fun p hp => I.sep p ((h p).mpr hp), fun z hz hX => I.els z hz fun p hp => hX p ((h p).mp hp)⟩
theorem Is.map {R' : Int → Int} (I : Is u K s R X) (T : Tri K s) (h : ∀ x ∈ K, R' x = R x) : Is u K s R' X :=
  ⟨I.nd, fun x hx y hy e => I.inj x hx y hy (by rw [← h x hx, ← h y hy]; exact e), fun x hx => by rw [h x hx, h _ (T.mp x hx)]; exact I.val x hx, I.ext, fun p hp x hx => by rw [h x hx]; exact I.sep p hp x hx, fun z hz hX => I.els z (fun x hx => by rw [← h x hx]; exact hz x hx) hX⟩
/-! a bubble parted -/
structure Prt (w : Wb) (p1 p2 n : Int) : Prop where
  k1 : p1 ∈ keysI w
  k2 : p2 ∈ keysI w
  ne : p1 ≠ p2
  lt : ∀ x ∈ keysI w, x < n
  ev : oth n = n + 1 ∧ oth (n + 2) = n + 3 ∧ oth (n + 4) = n + 5
def madeW (w : Wb) (p1 p2 n : Int) : Wb :=
  put3 (put3 (put3 (delI (put3 (delI w p1) (n + 1) (sg w p1) (sg w (sg w p1))) p2) (n + 3) (rn p1 (n + 1) (sg w p2)) (rn p1 (n + 1) (sg w (sg w p2)))) p1 (n + 4) n) p2 (n + 5) (n + 2)
def R2 (p1 p2 n : Int) : Int → Int := fun x => rn p2 (n + 3) (rn p1 (n + 1) x)
end
end FS
end

set_option linter.all false
set_option Elab.async false
set_option maxRecDepth 100000
set_option maxHeartbeats 1000000
noncomputable section
namespace FS
open PySem L2 FW CY
section
variable {w u : Wb} {m : Nat}
end
end FS
end

set_option linter.all false
set_option Elab.async false
set_option maxRecDepth 100000
set_option maxHeartbeats 1000000
noncomputable section
namespace FS
open PySem L2 FW CY
section
variable {w u : Wb} {m : Nat}
/-! every bubble by one of its ends -/
open Classical in
def headsGo (w : Wb) : List Int → List Int → List Int
  | [], _ => []
  | e :: es, P => if e ∈ P then headsGo w es P else e :: headsGo w es ((rimL w e).foldl addI P)
def hdsL (w : Wb) : List Int := headsGo w (srt (keysI w)) []
/-- lb names every end by one end of its bubble -/
structure Lab (w lb : Wb) (L : Int → Int) : Prop where
  val : ∀ x ∈ keysI w, valI lb x = some (L x)
  key : ∀ x ∈ keysI w, L x ∈ keysI w
  iff : ∀ x ∈ keysI w, ∀ y ∈ keysI w, (L x = L y ↔ Sm (keysI w) (ri w) x y)
def putAll (h : Int) (l : List Int) (acc : Wb) : Wb := l.foldl (fun acc x => putI acc x h) acc
/-! how many sides -/
open Classical in
def cnt (K : List Int) (p : Int → Prop) : Nat := (K.filter fun x => decide (p x)).length
open Classical in
theorem cnt_congr {K : List Int} {p q : Int → Prop} (h : ∀ x ∈ K, (p x ↔ q x)) : cnt K p = cnt K q := by
  unfold cnt
  congr 1
  exact List.filter_congr fun x hx => by simp [h x hx]
open Classical in
def on (p : Prop) : Int := if p then 1 else 0
open Classical in
theorem cnt_two {K K0 : List Int} (nd : K.Nodup) (nd0 : K0.Nodup) {e o : Int} (he : e ∈ K) (ho : o ∈ K) (ne : e ≠ o) (h : ∀ x, x ∈ K0 ↔ x ∈ K ∧ x ≠ e ∧ x ≠ o) (p : Int → Prop) : (cnt K p : Int) = cnt K0 p + on (p e) + on (p o) := by
  have P : K.Perm (e :: o :: K0) := (List.perm_ext_iff_of_nodup nd (List.nodup_cons.mpr ⟨by simp [ne, h], List.nodup_cons.mpr ⟨by simp [h], nd0⟩⟩)).mpr fun x => by
    simp only [List.mem_cons, h]
    constructor
    · intro hx
      by_cases a : x = e
      · exact .inl a
      · by_cases b : x = o
        · exact .inr (.inl b)
        · exact .inr (.inr ⟨hx, a, b⟩)
    · rintro (rfl | rfl | q)
      · exact he
      · exact ho
      · exact q.1
  unfold cnt on
  rw [(P.filter _).length_eq, List.filter_cons, List.filter_cons]
  by_cases a : p e <;> by_cases b : p o <;> simp [a, b] <;> omega
end
end FS
end

set_option linter.all false
set_option Elab.async false
set_option maxRecDepth 100000
set_option maxHeartbeats 1000000
noncomputable section
namespace FS
open PySem L2 FW CY
section
variable {w u : Wb} {m : Nat}
/-- two ends leave their rounds and come into two others -/
structure Mv (K : List Int) (φ φ' : Int → Int) (e o a b c d i1 i2 A B C E : Int) : Prop where
  pm : Pm K φ
  me : e ∈ K ∧ o ∈ K ∧ a ∈ K ∧ b ∈ K ∧ c ∈ K ∧ d ∈ K ∧ A ∈ K ∧ B ∈ K ∧ C ∈ K ∧ E ∈ K
  eo : e ≠ o
  na : a ≠ e ∧ a ≠ o
  nb : b ≠ e ∧ b ≠ o
  nc : c ≠ e ∧ c ≠ o
  nd : d ≠ e ∧ d ≠ o
  f1 : φ A = b ∧ φ B = e ∧ φ C = d ∧ φ E = o ∧ φ e = c ∧ φ o = a
  f2 : φ' A = i1 ∧ φ' i1 = b ∧ φ' C = i2 ∧ φ' i2 = d ∧ φ' B = c ∧ φ' E = a
  ii : (i1 = e ∧ i2 = o) ∨ (i1 = o ∧ i2 = e)
  el : ∀ z ∈ K, z ≠ e → z ≠ o → z ≠ A → z ≠ B → z ≠ C → z ≠ E → φ' z = φ z
variable {K : List Int} {φ φ' : Int → Int} {e o a b c d i1 i2 A B C E : Int}
theorem Mv.sm (M : Mv K φ φ' e o a b c d i1 i2 A B C E) {x y : Int} (hx : x ≠ e ∧ x ≠ o) (hy : y ≠ e ∧ y ≠ o) : Sm K φ x y ↔ Sm K φ' x y := by
  obtain ⟨pm, ⟨me, mo, ma, mb, mc, md, mA, mB, mC, mE⟩, eo, na, nb, nc, nd, ⟨p1, p2, p3, p4, p5, p6⟩, ⟨q1, q2, q3, q4, q5, q6⟩, ii, el⟩ := M
  have mi1 : i1 ∈ K := by rcases ii with ⟨h, _⟩ | ⟨h, _⟩ <;> rw [h] <;> assumption
  have mi2 : i2 ∈ K := by rcases ii with ⟨_, h⟩ | ⟨_, h⟩ <;> rw [h] <;> assumption
  constructor
  · intro h S hS
    have sA := hS A mA
    have s1 := hS i1 mi1
    have sC := hS C mC
    have s2 := hS i2 mi2
    have sB := hS B mB
    have sE := hS E mE
    rw [q1] at sA
    rw [q2] at s1
    rw [q3] at sC
    rw [q4] at s2
    rw [q5] at sB
    rw [q6] at sE
    have key := h (fun z => if z = e then S c else if z = o then S a else S z) fun z hz => by
      by_cases z1 : z = e
      · subst z1; simp [p5, nc.1, nc.2]
      by_cases z2 : z = o
      · subst z2; simp [z1, p6, na.1, na.2]
      simp only [if_neg z1, if_neg z2]
      by_cases z3 : z = A
      · subst z3; simp only [p1, if_neg nb.1, if_neg nb.2]; exact sA.trans s1
      by_cases z4 : z = B
      · subst z4; simp only [p2, if_pos rfl]; exact sB
      by_cases z5 : z = C
      · subst z5; simp only [p3, if_neg nd.1, if_neg nd.2]; exact sC.trans s2
      by_cases z6 : z = E
      · subst z6; simp only [p4, if_neg (Ne.symm eo), if_pos rfl]; exact sE
      have n1 : φ z ≠ e := fun q => z4 (pm.inj z hz B mB (q.trans p2.symm))
      have n2 : φ z ≠ o := fun q => z6 (pm.inj z hz E mE (q.trans p4.symm))
      simp only [if_neg n1, if_neg n2]
      rw [← el z hz z1 z2 z3 z4 z5 z6]
      exact hS z hz
    simp only [if_neg hx.1, if_neg hx.2, if_neg hy.1, if_neg hy.2] at key
    exact key
  · intro h S hS
    have sA := hS A mA
    have sB := hS B mB
    have sC := hS C mC
    have sE := hS E mE
    have se := hS e me
    have so := hS o mo
    rw [p1] at sA
    rw [p2] at sB
    rw [p3] at sC
    rw [p4] at sE
    rw [p5] at se
    rw [p6] at so
    have ni : ∀ z, z ≠ e → z ≠ o → z ≠ i1 ∧ z ≠ i2 := fun z h1 h2 => by rcases ii with ⟨r1, r2⟩ | ⟨r1, r2⟩ <;> rw [r1, r2] <;> simp [h1, h2]
    have in' : ∀ z, z ≠ i1 → z ≠ i2 → z ≠ e ∧ z ≠ o := fun z h1 h2 => by rcases ii with ⟨r1, r2⟩ | ⟨r1, r2⟩ <;> rw [r1] at h1 <;> rw [r2] at h2 <;> simp [h1, h2]
    have i12 : i2 ≠ i1 := by rcases ii with ⟨r1, r2⟩ | ⟨r1, r2⟩ <;> rw [r1, r2] <;> first | exact eo | exact Ne.symm eo
    have b' := ni b nb.1 nb.2
    have d' := ni d nd.1 nd.2
    have c' := ni c nc.1 nc.2
    have a' := ni a na.1 na.2
    have key := h (fun z => if z = i1 then S b else if z = i2 then S d else S z) fun z hz => by
      by_cases z1 : z = i1
      · subst z1; simp [q2, b'.1, b'.2]
      by_cases z2 : z = i2
      · subst z2; simp [z1, q4, d'.1, d'.2]
      obtain ⟨z1', z2'⟩ := in' z z1 z2
      simp only [if_neg z1, if_neg z2]
      by_cases z3 : z = A
      · subst z3; simp only [q1, if_pos rfl]; exact sA
      by_cases z4 : z = B
      · subst z4; simp only [q5, if_neg c'.1, if_neg c'.2]; exact sB.trans se
      by_cases z5 : z = C
      · subst z5; simp only [q3, if_neg i12, if_pos rfl]; exact sC
      by_cases z6 : z = E
      · subst z6; simp only [q6, if_neg a'.1, if_neg a'.2]; exact sE.trans so
      have n1 : φ z ≠ e := fun q => z4 (pm.inj z hz B mB (q.trans p2.symm))
      have n2 : φ z ≠ o := fun q => z6 (pm.inj z hz E mE (q.trans p4.symm))
      rw [el z hz z1' z2' z3 z4 z5 z6]
      have n' := ni _ n1 n2
      simp only [if_neg n'.1, if_neg n'.2]
      exact hS z hz
    have x' := ni x hx.1 hx.2
    have y' := ni y hy.1 hy.2
    simp only [if_neg x'.1, if_neg x'.2, if_neg y'.1, if_neg y'.2] at key
    exact key
open Classical in
theorem on_congr {p q : Prop} (h : p ↔ q) : on p = on q := by unfold on; simp [h]
open Classical in
theorem Mv.cnt (M : Mv K φ φ' e o a b c d i1 i2 A B C E) {x : Int} (hx : x ≠ e ∧ x ≠ o) : (cnt K (Sm K φ' x) : Int) = cnt K (Sm K φ x) - on (Sm K φ x e) + on (Sm K φ x b) - on (Sm K φ x o) + on (Sm K φ x d) := by
  have nd : (K.filter fun z => decide (z ≠ e ∧ z ≠ o)).Nodup := List.Pairwise.filter _ M.pm.nd
  have mem : ∀ z, z ∈ (K.filter fun z => decide (z ≠ e ∧ z ≠ o)) ↔ z ∈ K ∧ z ≠ e ∧ z ≠ o := fun z => by rw [List.mem_filter]; simp
  generalize (K.filter fun z => decide (z ≠ e ∧ z ≠ o)) = K0 at *
  have c1 := cnt_two M.pm.nd nd M.me.1 M.me.2.1 M.eo mem (Sm K φ x)
  have c2 := cnt_two M.pm.nd nd M.me.1 M.me.2.1 M.eo mem (Sm K φ' x)
  have c3 : FS.cnt K0 (Sm K φ x) = FS.cnt K0 (Sm K φ' x) := cnt_congr fun z hz => M.sm hx ((mem z).mp hz).2
  have mi1 : i1 ∈ K := by rcases M.ii with ⟨h, _⟩ | ⟨h, _⟩ <;> rw [h]; exact M.me.1; exact M.me.2.1
  have mi2 : i2 ∈ K := by rcases M.ii with ⟨_, h⟩ | ⟨_, h⟩ <;> rw [h]; exact M.me.2.1; exact M.me.1
  have s1 : Sm K φ' i1 b := by have := Sm.step (f := φ') mi1; rwa [M.f2.2.1] at this
  have s2 : Sm K φ' i2 d := by have := Sm.step (f := φ') mi2; rwa [M.f2.2.2.2.1] at this
  have o1 : on (Sm K φ' x i1) = on (Sm K φ x b) := on_congr ⟨fun h => (M.sm hx M.nb).mpr (h.trans s1), fun h => ((M.sm hx M.nb).mp h).trans s1.symm⟩
  have o2 : on (Sm K φ' x i2) = on (Sm K φ x d) := on_congr ⟨fun h => (M.sm hx M.nd).mpr (h.trans s2), fun h => ((M.sm hx M.nd).mp h).trans s2.symm⟩
  have o3 : on (Sm K φ' x e) + on (Sm K φ' x o) = on (Sm K φ x b) + on (Sm K φ x d) := by
    rcases M.ii with ⟨h1, h2⟩ | ⟨h1, h2⟩
    · rw [h1] at o1; rw [h2] at o2; omega
    · rw [h1] at o1; rw [h2] at o2; omega
  omega
/-! sides in a dict -/
def sdOp (L : Int → Int) : Wb → Int → Wb := fun acc k => putI acc (L k) ((valI acc (L k)).getD 0 + 1)
end
end FS
end

set_option linter.all false
set_option Elab.async false
set_option maxRecDepth 100000
set_option maxHeartbeats 1000000
noncomputable section
namespace FS
open PySem L2 FW CY
section
variable {w u : Wb} {m : Nat}
end
end FS
end

set_option linter.all false
set_option Elab.async false
set_option maxRecDepth 100000
set_option maxHeartbeats 1000000
noncomputable section
namespace FS
open PySem L2 FW CY
section
variable {w u : Wb} {m : Nat}
/-- in one round, where the rounds of e and o are joined -/
def Jn (K : List Int) (φ : Int → Int) (e o x y : Int) : Prop := ∀ S : Int → Prop, (∀ z ∈ K, S z ↔ S (φ z)) → (S e ↔ S o) → (S x ↔ S y)
variable {K K' : List Int} {s φ : Int → Int} {e o x y : Int}
theorem Jn.refl : Jn K φ e o x x := fun _ _ _ => Iff.rfl
theorem Jn.symm (h : Jn K φ e o x y) : Jn K φ e o y x := fun S a b => (h S a b).symm
theorem Jn.trans {z : Int} (h : Jn K φ e o x y) (h' : Jn K φ e o y z) : Jn K φ e o x z := fun S a b => (h S a b).trans (h' S a b)
theorem Jn.of (h : Sm K φ x y) : Jn K φ e o x y := fun S a _ => h S a
theorem Jn.eo : Jn K φ e o e o := fun _ _ b => b
end
end FS
end

set_option linter.all false
set_option Elab.async false
set_option maxRecDepth 100000
set_option maxHeartbeats 1000000
noncomputable section
namespace FS
open PySem L2 FW CY
section
variable {w u : Wb} {m : Nat}
end
end FS
end

set_option linter.all false
set_option Elab.async false
set_option maxRecDepth 100000
set_option maxHeartbeats 1000000
noncomputable section
namespace FS
open PySem L2 FW CY
section
variable {w : Wb} {m : Nat}
def aug (sd : Wb) (k g : Int) : Wb := putI sd k ((valI sd k).getD 0 + g)
/-- the sides as the law reckons them after a burst -/
def bsd (sd : Wb) (L : Int → Int) (e o b d : Int) (v : Int) : Wb := aug (aug (putI sd (L e) v) (if L b = L o then L e else L b) (-1)) (if L d = L o then L e else L d) (-1)
end
end FS
end

set_option linter.all false
set_option Elab.async false
set_option maxRecDepth 100000
set_option maxHeartbeats 1000000
noncomputable section
namespace FN
open PySem L2 FW CY FS
/-! dicts that lead each end to an end, no two to the same one -/
structure Md (w : Wb) : Prop where
  mpp : Mp (keysI w) (sg w)
  len : w.length ≤ 100000
section
variable {w : Wb} {m : Nat}
theorem Md.pm (W : Md w) : Pm (keysI w) (ri w) := W.mpp.ph
end
end FN
end

set_option linter.all false
set_option Elab.async false
set_option maxRecDepth 100000
set_option maxHeartbeats 1000000
noncomputable section
namespace FN
open PySem L2 FW CY FS
/-! the first fault of any dict of numbers -/
section
variable {w : Wb}
/-- the least of those that a test lets pass stands first among the sorted ones -/
theorem srt_head {K : List Int} {p : Int → Bool} (h : K.filter p ≠ []) : ∃ t, (srt K).filter p = minI (K.filter p) :: t := by
  have pm : ((srt K).filter p).Perm (K.filter p) := (srt_perm K).filter p
  have so : ((srt K).filter p).Pairwise (· ≤ ·) := (srt_le K).filter p
  obtain ⟨m1, m2⟩ := minI_ok h
  cases q : (srt K).filter p with
  | nil => rw [q] at pm; exact absurd pm.symm.eq_nil h
  | cons a t =>
    rw [q] at pm so
    have a1 : a ∈ K.filter p := pm.mem_iff.mp List.mem_cons_self
    have a2 := m2 a a1
    have a3 : minI (K.filter p) ∈ a :: t := pm.mem_iff.mpr m1
    have a4 : a ≤ minI (K.filter p) := by
      rcases List.mem_cons.mp a3 with e | e
      · omega
      · exact (List.pairwise_cons.mp so).1 _ e
    have : a = minI (K.filter p) := by omega
    exact ⟨t, by rw [this]⟩
def pL (w : Wb) : Int → Bool := fun e => !decide (oth e ∈ keysI w)
def pA (w : Wb) : Int → Bool := fun e => !decide (sg w e ∈ keysI w)
def pC (w : Wb) : Int → Bool := fun e => decide (sg w e = e) || !decide (sg w (sg w (sg w e)) = e)
def pS (S : List Int) : Int → Bool := fun e => !decide (e ∈ S)
def ft (s : String) (n : Int) : RV := ⟨.tup [.str s, .int n], false⟩
theorem srt_l (w : Wb) : (srt (keysI w)).length = w.length := by rw [(srt_perm (keysI w)).length_eq, klen]
/-- by the law's own eyes -/
theorem l0 (w : Wb) : sSet 1 (eFr fSorted (abCons (bE (eFr fList (abCons (bVar 0) aNil))) aNil)) fuel [.pu (.dic (dw w)), .un, .un, .un, .un, .un, .un, .un, .un] = some (.nx [.pu (.dic (dw w)), .mu (.lst ((srt (keysI w)).map D.int)), .un, .un, .un, .un, .un, .un, .un]) := by
  refine sSet_of (r := ⟨.lst ((srt (keysI w)).map D.int), true⟩) ?_
  simp only [eFr_a, abCons_a, bE_a, bVar_a, aNil_a, List.getElem?_cons_zero, Option.bind_some, Option.map_some, fList_d, keysD_dw, fSorted_l, intsD_map]
theorem l2 (hl : w.length ≤ 100000) : sFrz 1 (sSet 2 (eLcV 1 (gdName 8) (b2 fNotIn (bE (eCallN 1 FW.F_other (aCons (eVar 8) aNil))) (bVar 0)) (eVar 8) [8])) fuel [.pu (.dic (dw w)), .mu (.lst ((srt (keysI w)).map D.int)), .un, .un, .un, .un, .un, .un, .un] =
    some (.nx [.pu (.dic (dw w)), .pu (.lst ((srt (keysI w)).map D.int)), .mu (.lst (((srt (keysI w)).filter (pL w)).map D.int)), .un, .un, .un, .un, .un, .un]) := by
  rw [sFrz_a]
  refine sSet_of (lc_filter (p := pL w) (ns := srt (keysI w)) rfl rfl (by rw [srt_l]; unfold lim; omega) fun k hk => ⟨?_, rfl⟩)
  simp [F_other_i, valD_dw, valI_isSome, pL]
theorem l4 {s2 : Sl} (hl : w.length ≤ 100000) : sFrz 1 (sSet 3 (eLcV 1 (gdName 8) (b2 fNotIn (bE (eIx (bVar 0) (bVar 8))) (bVar 0)) (eVar 8) [8])) fuel [.pu (.dic (dw w)), .pu (.lst ((srt (keysI w)).map D.int)), s2, .un, .un, .un, .un, .un, .un] =
    some (.nx [.pu (.dic (dw w)), .pu (.lst ((srt (keysI w)).map D.int)), s2, .mu (.lst (((srt (keysI w)).filter (pA w)).map D.int)), .un, .un, .un, .un, .un]) := by
  rw [sFrz_a]
  refine sSet_of (lc_filter (p := pA w) (ns := srt (keysI w)) rfl rfl (by rw [srt_l]; unfold lim; omega) fun k hk => ⟨?_, rfl⟩)
  have v := val_sg (srt_mem.mp hk)
  simp [valD_dw, valI_isSome, v, pA]
theorem l6 {s2 s3 : Sl} (hl : w.length ≤ 100000) (hA : ∀ k ∈ keysI w, sg w k ∈ keysI w) : sFrz 1 (sSet 4 (eLcV 1 (gdName 8) (bOr (b2 fEq (bE (eIx (bVar 0) (bVar 8))) (bVar 8)) (b2 fNe (bE (eIx (bVar 0) (bE (eIx (bVar 0) (bE (eIx (bVar 0) (bVar 8))))))) (bVar 8))) (eVar 8) [8])) fuel [.pu (.dic (dw w)), .pu (.lst ((srt (keysI w)).map D.int)), s2, s3, .un, .un, .un, .un, .un] =
    some (.nx [.pu (.dic (dw w)), .pu (.lst ((srt (keysI w)).map D.int)), s2, s3, .mu (.lst (((srt (keysI w)).filter (pC w)).map D.int)), .un, .un, .un, .un]) := by
  rw [sFrz_a]
  refine sSet_of (lc_filter (p := pC w) (ns := srt (keysI w)) rfl rfl (by rw [srt_l]; unfold lim; omega) fun k hk => ⟨?_, rfl⟩)
  have k0 := srt_mem.mp hk
  have v := val_sg k0
  have k1 := hA _ k0
  have v1 := val_sg k1
  have k2 := hA _ k1
  have v2 := val_sg k2
  by_cases c : sg w k = k
  · simp [valD_dw, v, c, pC]
  · simp [valD_dw, v, v1, v2, c, pC]
theorem l10 {s2 s3 s4 : Sl} {S : List Int} (hl : w.length ≤ 100000) : sFrz 1 (sSet 6 (eLcV 1 (gdName 8) (b2 fNotIn (bVar 8) (bVar 5)) (eVar 8) [8])) fuel [.pu (.dic (dw w)), .pu (.lst ((srt (keysI w)).map D.int)), s2, s3, s4, .mu (.dic (db S)), .un, .un, .un] =
    some (.nx [.pu (.dic (dw w)), .pu (.lst ((srt (keysI w)).map D.int)), s2, s3, s4, .mu (.dic (db S)), .mu (.lst (((srt (keysI w)).filter (pS S)).map D.int)), .un, .un]) := by
  rw [sFrz_a]
  refine sSet_of (lc_filter (p := pS S) (ns := srt (keysI w)) rfl rfl (by rw [srt_l]; unfold lim; omega) fun k hk => ⟨?_, rfl⟩)
  simp [valD_db, pS]
theorem l1 (ne : w ≠ []) {s2 : List Sl} : sIf (b2 fEq (bn fLen (abCons (bVar 1) aNil)) (cst (.int 0))) (sRet (eTup (aCons (eB (cst (.str "none"))) (aCons (eB (cst (.int 0))) aNil)))) sNext fuel (.pu (.dic (dw w)) :: .mu (.lst ((srt (keysI w)).map D.int)) :: s2) = some (.nx (.pu (.dic (dw w)) :: .mu (.lst ((srt (keysI w)).map D.int)) :: s2)) := by
  refine (sIf_f ?_).trans rfl
  have h : (srt (keysI w)).length ≠ 0 := by rw [srt_l]; exact fun z => ne (List.length_eq_zero_iff.mp z)
  have h2 : srt (keysI w) ≠ [] := fun z => h (by rw [z]; rfl)
  simp [h2]
theorem srt_min (ne : w ≠ []) : ∃ t, srt (keysI w) = minI (keysI w) :: t := by
  have e : (keysI w).filter (fun _ => true) = keysI w := List.filter_eq_self.mpr fun _ _ => rfl
  have e2 : (srt (keysI w)).filter (fun _ => true) = srt (keysI w) := List.filter_eq_self.mpr fun _ _ => rfl
  obtain ⟨t, ht⟩ := srt_head (K := keysI w) (p := fun _ => true) (by rw [e]; intro z; apply ne; have := congrArg List.length z; simpa [keysI] using this)
  rw [e, e2] at ht
  exact ⟨t, ht⟩
theorem l9 {s2 s3 s4 : Sl} {S : List Int} (ne : w ≠ []) (hS : FW.F_flood [.dic (dw w), .int (minI (keysI w))] = some ⟨.dic (db S), true⟩) : sSet 5 (eCallN 2 FW.F_flood (aCons (eVar 0) (aCons (eIx (bVar 1) (cst (.int 0))) aNil))) fuel [.pu (.dic (dw w)), .pu (.lst ((srt (keysI w)).map D.int)), s2, s3, s4, .un, .un, .un, .un] =
    some (.nx [.pu (.dic (dw w)), .pu (.lst ((srt (keysI w)).map D.int)), s2, s3, s4, .mu (.dic (db S)), .un, .un, .un]) := by
  obtain ⟨t, ht⟩ := srt_min ne
  have at0 : atI ((srt (keysI w)).map D.int) 0 = some (.int (minI (keysI w))) := by rw [ht]; exact at_zero
  refine sSet_of (r := ⟨.dic (db S), true⟩) ?_
  simp [at0, hS]
end
end FN
end

set_option linter.all false
set_option Elab.async false
set_option maxRecDepth 100000
set_option maxHeartbeats 1000000
noncomputable section
namespace FN
open PySem L2 FW CY FS
section
variable {w : Wb}
theorem kl (hl : w.length ≤ 100000) : (keysI w).length ≤ lim := by rw [klen]; unfold lim; omega
theorem p1 (hl : w.length ≤ 100000) : sSet 1 (eLcV 0 (gdName 4) (b2 fNotIn (bE (eCallN 1 FW.F_other (aCons (eVar 4) aNil))) (bVar 0)) (eVar 4) [4]) fuel [.pu (.dic (dw w)), .un, .un, .un, .un] = some (.nx [.pu (.dic (dw w)), .mu (.lst (((keysI w).filter (pL w)).map D.int)), .un, .un, .un]) := by
  refine sSet_of (lc_filter (p := pL w) (ns := keysI w) rfl (by rw [itemsD_d, keysD_dw]) (kl hl) fun k hk => ⟨?_, rfl⟩)
  simp [F_other_i, valD_dw, valI_isSome, pL]
theorem p2 {s1 : Sl} (hl : w.length ≤ 100000) : sSet 2 (eLcV 0 (gdName 4) (b2 fNotIn (bE (eIx (bVar 0) (bVar 4))) (bVar 0)) (eVar 4) [4]) fuel [.pu (.dic (dw w)), s1, .un, .un, .un] = some (.nx [.pu (.dic (dw w)), s1, .mu (.lst (((keysI w).filter (pA w)).map D.int)), .un, .un]) := by
  refine sSet_of (lc_filter (p := pA w) (ns := keysI w) rfl (by rw [itemsD_d, keysD_dw]) (kl hl) fun k hk => ⟨?_, rfl⟩)
  have v := val_sg hk
  simp [valD_dw, valI_isSome, v, pA]
theorem comes (hA : ∀ k ∈ keysI w, sg w k ∈ keysI w) {k : Int} (hk : k ∈ keysI w) : FS.F_comes_round [.dic (dw w), .int k] = some ⟨.bl (!(pC w k)), false⟩ := by
  have v := val_sg hk
  have k1 := hA _ hk
  have v1 := val_sg k1
  have k2 := hA _ k1
  have v2 := val_sg k2
  unfold FS.F_comes_round
  rw [fnD_a]
  unfold FS.S_comes_round
  by_cases c : sg w k = k
  · rw [c] at v1 v2
    simp [valD_dw, v, v1, c, pC]
  · simp [valD_dw, v, v1, v2, c, pC]
theorem p3 {s1 s2 : Sl} (hl : w.length ≤ 100000) (hA : ∀ k ∈ keysI w, sg w k ∈ keysI w) : sSet 3 (eLcV 0 (gdName 4) (bNot (bE (eCallN 2 FS.F_comes_round (aCons (eVar 0) (aCons (eVar 4) aNil))))) (eVar 4) [4]) fuel [.pu (.dic (dw w)), s1, s2, .un, .un] = some (.nx [.pu (.dic (dw w)), s1, s2, .mu (.lst (((keysI w).filter (pC w)).map D.int)), .un]) := by
  refine sSet_of (lc_filter (p := pC w) (ns := keysI w) rfl (by rw [itemsD_d, keysD_dw]) (kl hl) fun k hk => ⟨?_, rfl⟩)
  simp [comes hA hk]
end
end FN
end

set_option linter.all false
set_option Elab.async false
set_option maxRecDepth 100000
set_option maxHeartbeats 1000000
noncomputable section
namespace FN
open PySem L2 FW CY FS
section
variable {w : Wb}
end
end FN
end

set_option linter.all false
set_option Elab.async false
set_option maxRecDepth 100000
set_option maxHeartbeats 1000000
noncomputable section
namespace FN
open PySem L2 FW CY FS
def S_spoil : SX := sSeq (sAsg (eCallN 2 FA.F_digits (aCons (eVar 1) (aCons (eLst (aCons (eB (cst (.int 10))) (aCons (eB (cst (.int 4001))) (aCons (eB (cst (.int 4003))) (aCons (eB (b2 fAdd (b2 fPow (cst (.int 10)) (cst (.int 6))) (cst (.int 1)))) aNil))))) aNil))) (gdSeq [4, 5, 6, 7])) (sSeq (sSet 2 (eFr fSorted (abCons (bE (eFr fList (abCons (bVar 0) aNil))) aNil))) (sSeq (sIf (bOr (b2 fEq (bn fLen (abCons (bVar 2) aNil)) (cst (.int 0))) (b2 fEq (bVar 4) (cst (.int 0)))) (sRetV 0) sNext) (sSeq (sSet 3 (eFr fDict (abCons (bVar 0) aNil))) (sSeq (sPar 8 9 (aCons (eIx (bVar 2) (b2 fMod (bVar 5) (bn fLen (abCons (bVar 2) aNil)))) (aCons (eIx (bVar 2) (b2 fMod (bVar 6) (bn fLen (abCons (bVar 2) aNil)))) aNil))) (sSeq (sIf (b2 fEq (bVar 4) (cst (.int 1))) (sDdel 3 (bVar 8)) sNext) (sSeq (sIf (b2 fEq (bVar 4) (cst (.int 2))) (sSeq (sDdel 3 (bVar 8)) (sDpop2 3 (bE (eCallN 1 FW.F_other (aCons (eVar 8) aNil))) (cst (.int 0)))) sNext) (sSeq (sIf (b2 fIn (bVar 4) (bE (eTup (aCons (eB (cst (.int 3))) (aCons (eB (cst (.int 4))) (aCons (eB (cst (.int 5))) aNil)))))) (sDput 3 (bVar 8) (eIx (bE (eLst (aCons (eVar 7) (aCons (eVar 9) (aCons (eVar 8) aNil))))) (b2 fSub (bVar 4) (cst (.int 3))))) sNext) (sSeq (sIf (b2 fEq (bVar 4) (cst (.int 6))) (sAsg (eTup (aCons (eIx (bVar 0) (bVar 9)) (aCons (eIx (bVar 0) (bVar 8)) aNil))) (gdTwo (gdDput 3 (bVar 8)) (gdDput 3 (bVar 9)))) sNext) (sSeq (sIf (bAnd (b2 fEq (bVar 4) (cst (.int 7))) (bAnd (b2 fIn (bE (eIx (bVar 0) (bVar 8))) (bVar 0)) (b2 fIn (bE (eIx (bVar 0) (bE (eIx (bVar 0) (bVar 8))))) (bVar 0)))) (sCallM 3 2 FW.F_seat (aCons (eTup (aCons (eVar 8) (aCons (eIx (bVar 0) (bE (eIx (bVar 0) (bVar 8)))) (aCons (eIx (bVar 0) (bVar 8)) aNil)))) aNil)) sNext) (sSeq (sIf (b2 fEq (bVar 4) (cst (.int 8))) (sFor (srcD (eCallN 2 FW.F_lcomb (aCons (eB (b2 fAdd (cst (.int 1)) (b2 fMod (bVar 5) (cst (.int 2))))) (aCons (eB (b2 fAdd (cst (.int 1)) (b2 fMod (bVar 6) (cst (.int 3))))) aNil)))) (gdName 10) (sDput 3 (b2 fAdd (bVar 10) (b2 fPow (cst (.int 10)) (cst (.int 5)))) (eB (b2 fAdd (bE (eIx (bE (eCallN 2 FW.F_lcomb (aCons (eB (b2 fAdd (cst (.int 1)) (b2 fMod (bVar 5) (cst (.int 2))))) (aCons (eB (b2 fAdd (cst (.int 1)) (b2 fMod (bVar 6) (cst (.int 3))))) aNil)))) (bVar 10))) (b2 fPow (cst (.int 10)) (cst (.int 5))))))) sNext) (sSeq (sIf (bAnd (b2 fEq (bVar 4) (cst (.int 9))) (b2 fEq (b2 fMod (bVar 6) (cst (.int 5))) (cst (.int 0)))) (sClear 3) sNext) (sRetV 3))))))))))))
def F_spoil : List D → Option RV := fnD 11 S_spoil fuel
theorem pow5 {env : En} : b2 fPow (cst (.int 10)) (cst (.int 5)) env = some (.int 100000) := by rfl
section
variable {w : Wb} {c k o t y a b : Int}
def St (w : Wb) (c k o t y a b : Int) (u : Wb) (s : Sl) : En := [.pu (.dic (dw w)), .pu (.int c), .mu (.lst ((srt (keysI w)).map D.int)), .mu (.dic (dw u)), .pu (.int k), .pu (.int o), .pu (.int t), .pu (.int y), .pu (.int a), .pu (.int b), s]
def Iv (w : Wb) (c k o t y a b : Int) (n : Int) (e : En) : Prop := ∃ u s, e = St w c k o t y a b u s ∧ (keysI u).Nodup ∧ u.length ≤ w.length + 40 ∧ (n ≤ k → u = w)
theorem q1 (nd : (keysI w).Nodup) (ha : a ∈ keysI w) : Iv w c k o t y a b 1 (St w c k o t y a b w .un) := ⟨w, .un, rfl, nd, by omega, fun _ => rfl⟩
theorem stay {X : BX} {B : SX} {e : En} {n n' : Int} (hn : n ≤ n') (I : Iv w c k o t y a b n e) (h : X e = some (.bl false)) : ∃ e', sIf X B sNext fuel e = some (.nx e') ∧ Iv w c k o t y a b n' e' := by
  obtain ⟨u, s, he, h1, h2, h3⟩ := I
  exact ⟨e, (sIf_f h).trans rfl, u, s, he, h1, h2, fun z => h3 (by omega)⟩
theorem eqk {e : En} {n j : Int} (I : Iv w c k o t y a b n e) : b2 fEq (bVar 4) (cst (.int j)) e = some (.bl (decide (k = j))) := by
  obtain ⟨u, s, rfl, _⟩ := I
  simp [St]
theorem s1 (nd : (keysI w).Nodup) (ha : a ∈ keysI w) {e : En} (I : Iv w c k o t y a b 1 e) : ∃ e', sIf (b2 fEq (bVar 4) (cst (.int 1))) (sDdel 3 (bVar 8)) sNext fuel e = some (.nx e') ∧ Iv w c k o t y a b 2 e' := by
  by_cases h : k = 1
  · obtain ⟨u, s, rfl, h1, h2, h3⟩ := id I
    have e := h3 (by omega)
    subst e
    have v := val_sg ha
    refine ⟨_, (sIf_t (by rw [eqk I, decide_eq_true h])).trans (show sDdel 3 (bVar 8) fuel _ = some (.nx (St u c k o t y a b (delI u a) s)) from ?_), delI u a, s, rfl, delI_nd nd, Nat.le_trans delI_len (by omega), fun z => by omega⟩
    simp [St, valD_dw, v, dropD_dw]
  · exact stay (by omega) I (by rw [eqk I, decide_eq_false h])
theorem s2 (nd : (keysI w).Nodup) (ha : a ∈ keysI w) {e : En} (I : Iv w c k o t y a b 2 e) : ∃ e', sIf (b2 fEq (bVar 4) (cst (.int 2))) (sSeq (sDdel 3 (bVar 8)) (sDpop2 3 (bE (eCallN 1 FW.F_other (aCons (eVar 8) aNil))) (cst (.int 0)))) sNext fuel e = some (.nx e') ∧ Iv w c k o t y a b 3 e' := by
  by_cases h : k = 2
  · obtain ⟨u, s, rfl, h1, h2, h3⟩ := id I
    have e := h3 (by omega)
    subst e
    have v := val_sg ha
    have st : sDdel 3 (bVar 8) fuel (St u c k o t y a b u s) = some (.nx (St u c k o t y a b (delI u a) s)) := by simp [St, valD_dw, v, dropD_dw]
    have st2 : ∃ u', sDpop2 3 (bE (eCallN 1 FW.F_other (aCons (eVar 8) aNil))) (cst (.int 0)) fuel (St u c k o t y a b (delI u a) s) = some (.nx (St u c k o t y a b u' s)) ∧ (keysI u').Nodup ∧ u'.length ≤ u.length := by
      cases q : valI (delI u a) (oth a) with
      | none => exact ⟨delI u a, by simp [St, F_other_i, valD_dw, q], delI_nd nd, delI_len⟩
      | some v' => exact ⟨delI (delI u a) (oth a), by simp [St, F_other_i, valD_dw, q, dropD_dw], delI_nd (delI_nd nd), Nat.le_trans delI_len delI_len⟩
    obtain ⟨u', e1, e2, e3⟩ := st2
    exact ⟨_, (sIf_t (by rw [eqk I, decide_eq_true h])).trans ((sSeq_nx st).trans e1), u', s, rfl, e2, by omega, fun z => by omega⟩
  · exact stay (by omega) I (by rw [eqk I, decide_eq_false h])
theorem s3 (nd : (keysI w).Nodup) (hl : w.length ≤ 100000) {e : En} (I : Iv w c k o t y a b 3 e) : ∃ e', sIf (b2 fIn (bVar 4) (bE (eTup (aCons (eB (cst (.int 3))) (aCons (eB (cst (.int 4))) (aCons (eB (cst (.int 5))) aNil)))))) (sDput 3 (bVar 8) (eIx (bE (eLst (aCons (eVar 7) (aCons (eVar 9) (aCons (eVar 8) aNil))))) (b2 fSub (bVar 4) (cst (.int 3))))) sNext fuel e = some (.nx e') ∧ Iv w c k o t y a b 6 e' := by
  have t3 : 3 ≤ lim := by decide
  by_cases h : k = 3 ∨ k = 4 ∨ k = 5
  · obtain ⟨u, s, rfl, h1, h2, h3⟩ := id I
    have e := h3 (by omega)
    subst e
    have lt : u.length < lim := by unfold lim; omega
    have : ∃ x, sDput 3 (bVar 8) (eIx (bE (eLst (aCons (eVar 7) (aCons (eVar 9) (aCons (eVar 8) aNil))))) (b2 fSub (bVar 4) (cst (.int 3)))) fuel (St u c k o t y a b u s) = some (.nx (St u c k o t y a b (putI u a x) s)) := by
      rcases h with rfl | rfl | rfl
      · exact ⟨y, by simp [St, t3, atI, ixN, dw_len, lt, putD_dw]⟩
      · exact ⟨b, by simp [St, t3, atI, ixN, dw_len, lt, putD_dw]⟩
      · exact ⟨a, by simp [St, t3, atI, ixN, dw_len, lt, putD_dw]⟩
    obtain ⟨x, ex⟩ := this
    refine ⟨_, (sIf_t ?_).trans ex, putI u a x, s, rfl, putI_nodup nd, Nat.le_trans putI_len (by omega), fun z => by omega⟩
    rcases h with rfl | rfl | rfl <;> simp [St, t3, inD_t3]
  · refine stay (by omega) I ?_
    obtain ⟨u, s, rfl, h1, h2, h3⟩ := I
    have n3 : k ≠ 3 := by omega
    have n4 : k ≠ 4 := by omega
    have n5 : k ≠ 5 := by omega
    simp [St, t3, n3, n4, n5, inD_t3]
theorem s4 (nd : (keysI w).Nodup) (hl : w.length ≤ 100000) (ha : a ∈ keysI w) (hb : b ∈ keysI w) {e : En} (I : Iv w c k o t y a b 6 e) : ∃ e', sIf (b2 fEq (bVar 4) (cst (.int 6))) (sAsg (eTup (aCons (eIx (bVar 0) (bVar 9)) (aCons (eIx (bVar 0) (bVar 8)) aNil))) (gdTwo (gdDput 3 (bVar 8)) (gdDput 3 (bVar 9)))) sNext fuel e = some (.nx e') ∧ Iv w c k o t y a b 7 e' := by
  by_cases h : k = 6
  · obtain ⟨u, s, rfl, h1, h2, h3⟩ := id I
    have e := h3 (by omega)
    subst e
    have va := val_sg ha
    have vb := val_sg hb
    have t2 : 2 ≤ lim := by decide
    have lt : u.length < lim := by unfold lim; omega
    have lt2 : (putI u a (sg u b)).length < lim := by have := putI_len (w := u) (k := a) (v := sg u b); unfold lim; omega
    have l2 : (putI (putI u a (sg u b)) b (sg u a)).length ≤ u.length + 2 := Nat.le_trans putI_len (Nat.add_le_add_right putI_len 1)
    refine ⟨_, (sIf_t (by rw [eqk I, decide_eq_true h])).trans (show sAsg (eTup (aCons (eIx (bVar 0) (bVar 9)) (aCons (eIx (bVar 0) (bVar 8)) aNil))) (gdTwo (gdDput 3 (bVar 8)) (gdDput 3 (bVar 9))) fuel _ = some (.nx (St u c k o t y a b (putI (putI u a (sg u b)) b (sg u a)) s)) from ?_), _, s, rfl, putI_nodup (putI_nodup nd), by omega, fun z => by omega⟩
    simp [St, valD_dw, va, vb, t2, gdTwo, gdDput, dw_len, lt, lt2, putD_dw]
  · exact stay (by omega) I (by rw [eqk I, decide_eq_false h])
theorem s5 (nd : (keysI w).Nodup) (hl : w.length ≤ 100000) (ha : a ∈ keysI w) {e : En} (I : Iv w c k o t y a b 7 e) : ∃ e', sIf (bAnd (b2 fEq (bVar 4) (cst (.int 7))) (bAnd (b2 fIn (bE (eIx (bVar 0) (bVar 8))) (bVar 0)) (b2 fIn (bE (eIx (bVar 0) (bE (eIx (bVar 0) (bVar 8))))) (bVar 0)))) (sCallM 3 2 FW.F_seat (aCons (eTup (aCons (eVar 8) (aCons (eIx (bVar 0) (bE (eIx (bVar 0) (bVar 8)))) (aCons (eIx (bVar 0) (bVar 8)) aNil)))) aNil)) sNext fuel e = some (.nx e') ∧ Iv w c k o t y a b 8 e' := by
  have t3 : 3 ≤ lim := by decide
  by_cases h : k = 7
  · obtain ⟨u, s, rfl, h1, h2, h3⟩ := id I
    have e := h3 (by omega)
    subst e
    have va := val_sg ha
    have c1 := bAnd_t (y := bAnd (b2 fIn (bE (eIx (bVar 0) (bVar 8))) (bVar 0)) (b2 fIn (bE (eIx (bVar 0) (bE (eIx (bVar 0) (bVar 8))))) (bVar 0))) (show b2 fEq (bVar 4) (cst (.int 7)) (St u c k o t y a b u s) = some (.bl true) by rw [eqk I, decide_eq_true h])
    cases q : valI u (sg u a) with
    | none =>
      refine stay (by omega) I ?_
      rw [c1]
      simp [St, valD_dw, va, q]
    | some v2 =>
      cases q2 : valI u v2 with
      | none =>
        refine stay (by omega) I ?_
        rw [c1]
        simp [St, valD_dw, va, q, q2]
      | some v3 =>
        have F := F_seat_w (w := u) (a := a) (b := v2) (c := sg u a) (by unfold lim; omega)
        refine ⟨_, (sIf_t (by rw [c1]; simp [St, valD_dw, va, q, q2])).trans (show sCallM 3 2 FW.F_seat (aCons (eTup (aCons (eVar 8) (aCons (eIx (bVar 0) (bE (eIx (bVar 0) (bVar 8)))) (aCons (eIx (bVar 0) (bVar 8)) aNil)))) aNil) fuel _ = some (.nx (St u c k o t y a b (put3 u a v2 (sg u a)) s)) from ?_), _, s, rfl, put3_nodup nd, Nat.le_trans put3_len (by omega), fun z => by omega⟩
        simp [St, valD_dw, va, q, t3, F]
  · refine stay (by omega) I ?_
    exact bAnd_f (by rw [eqk I, decide_eq_false h])
theorem s6 (hl : w.length ≤ 1000) (ho : 0 ≤ o) (ht : 0 ≤ t) {e : En} (I : Iv w c k o t y a b 8 e) : ∃ e', sIf (b2 fEq (bVar 4) (cst (.int 8))) (sFor (srcD (eCallN 2 FW.F_lcomb (aCons (eB (b2 fAdd (cst (.int 1)) (b2 fMod (bVar 5) (cst (.int 2))))) (aCons (eB (b2 fAdd (cst (.int 1)) (b2 fMod (bVar 6) (cst (.int 3))))) aNil)))) (gdName 10) (sDput 3 (b2 fAdd (bVar 10) (b2 fPow (cst (.int 10)) (cst (.int 5)))) (eB (b2 fAdd (bE (eIx (bE (eCallN 2 FW.F_lcomb (aCons (eB (b2 fAdd (cst (.int 1)) (b2 fMod (bVar 5) (cst (.int 2))))) (aCons (eB (b2 fAdd (cst (.int 1)) (b2 fMod (bVar 6) (cst (.int 3))))) aNil)))) (bVar 10))) (b2 fPow (cst (.int 10)) (cst (.int 5))))))) sNext fuel e = some (.nx e') ∧ Iv w c k o t y a b 9 e' := by
  by_cases h : k = 8
  · obtain ⟨u, s, rfl, h1, h2, h3⟩ := id I
    have e := h3 (by omega)
    subst e
    have r1 := FA.fmod_range (a := o) (b := 2) (by decide)
    have r2 := FA.fmod_range (a := t) (b := 3) (by decide)
    obtain ⟨r, hr⟩ : ∃ r : Nat, (r : Int) = 1 + o.fmod 2 := ⟨(1 + o.fmod 2).toNat, Int.toNat_of_nonneg (by omega)⟩
    obtain ⟨q, hq⟩ : ∃ q : Nat, (q : Int) = 1 + t.fmod 3 := ⟨(1 + t.fmod 3).toNat, Int.toNat_of_nonneg (by omega)⟩
    have rq : r * q ≤ 2 * 3 := Nat.mul_le_mul (by omega) (by omega)
    have F := F_lcomb_w (r := r) (c := q) (by omega) (by omega) (by omega)
    have cl := (cWeb_length (r := r) (c := q) (by omega) (by omega) (Nat.le_refl _)).1
    generalize hcw : cWeb r q (r * q) = cw at F cl
    rw [hr, hq] at F
    have n2 : (2 : Int) ≠ 0 := by decide
    have n3 : (3 : Int) ≠ 0 := by decide
    have CE : ∀ v s, eCallN 2 FW.F_lcomb (aCons (eB (b2 fAdd (cst (.int 1)) (b2 fMod (bVar 5) (cst (.int 2))))) (aCons (eB (b2 fAdd (cst (.int 1)) (b2 fMod (bVar 6) (cst (.int 3))))) aNil)) (St u c k o t y a b v s) = some ⟨.dic (dw cw), true⟩ := fun v s => by
      simp [St, fMod_i n2, fMod_i n3, F]
    obtain ⟨en, L, P⟩ := loopF_inv (gd := gdName 10) (n := fuel) (b := sDput 3 (b2 fAdd (bVar 10) (b2 fPow (cst (.int 10)) (cst (.int 5)))) (eB (b2 fAdd (bE (eIx (bE (eCallN 2 FW.F_lcomb (aCons (eB (b2 fAdd (cst (.int 1)) (b2 fMod (bVar 5) (cst (.int 2))))) (aCons (eB (b2 fAdd (cst (.int 1)) (b2 fMod (bVar 6) (cst (.int 3))))) aNil)))) (bVar 10))) (b2 fPow (cst (.int 10)) (cst (.int 5))))))
      (ds := (keysI cw).map D.int) (env := St u c k o t y a b u s) (fun i e => i ≤ cw.length ∧ ∃ v s, e = St u c k o t y a b v s ∧ (keysI v).Nodup ∧ v.length ≤ u.length + i) ⟨Nat.zero_le _, u, s, rfl, h1, by omega⟩ (fun i d e hi ⟨hic, v, s, he, v1, v2⟩ => by
        subst he
        obtain ⟨x, hx, rfl⟩ : ∃ x, (keysI cw)[i]? = some x ∧ D.int x = d := by
          rw [List.getElem?_map] at hi
          cases q : (keysI cw)[i]? with
          | none => rw [q] at hi; cases hi
          | some x => rw [q] at hi; cases hi; exact ⟨x, rfl, rfl⟩
        have hxm : x ∈ keysI cw := List.mem_of_getElem? hx
        have hlt : i < cw.length := by
          have := (List.getElem?_eq_some_iff.mp hx).1
          rwa [klen] at this
        have vx := val_sg hxm
        have lt : v.length < lim := by unfold lim; omega
        refine ⟨St u c k o t y a b v (.pu (.int x)), St u c k o t y a b (putI v (x + 100000) (sg cw x + 100000)) (.pu (.int x)), rfl, .inl ?_, by omega, _, _, rfl, putI_nodup v1, Nat.le_trans putI_len (by omega)⟩
        rw [sDput_a]
        have b10 : b2 fAdd (bVar 10) (b2 fPow (cst (.int 10)) (cst (.int 5))) (St u c k o t y a b v (.pu (.int x))) = some (.int (x + 100000)) := by
          rw [b2_a, pow5]; rfl
        have ee : eB (b2 fAdd (bE (eIx (bE (eCallN 2 FW.F_lcomb (aCons (eB (b2 fAdd (cst (.int 1)) (b2 fMod (bVar 5) (cst (.int 2))))) (aCons (eB (b2 fAdd (cst (.int 1)) (b2 fMod (bVar 6) (cst (.int 3))))) aNil)))) (bVar 10))) (b2 fPow (cst (.int 10)) (cst (.int 5)))) (St u c k o t y a b v (.pu (.int x))) = some ⟨.int (sg cw x + 100000), false⟩ := by
          have b11 : bVar 10 (St u c k o t y a b v (.pu (.int x))) = some (.int x) := rfl
          rw [eB_a, b2_a, pow5, bE_a, eIx_a, bE_a, CE, b11]
          simp [valD_dw, vx]
        rw [b10, ee]
        simp [St, dw_len, lt, putD_dw])
    obtain ⟨_, v, s', rfl, v1, v2⟩ := P
    rw [List.length_map, klen] at v2
    refine ⟨_, (sIf_t (by rw [eqk I, decide_eq_true h])).trans (sFor_of (ds := (keysI cw).map D.int) ?_ L), v, s', rfl, v1, by omega, fun z => by omega⟩
    unfold srcD
    rw [CE]
    simp [keysD_dw]
  · exact stay (by omega) I (by rw [eqk I, decide_eq_false h])
theorem s7 {e : En} (I : Iv w c k o t y a b 9 e) : ∃ e', sIf (bAnd (b2 fEq (bVar 4) (cst (.int 9))) (b2 fEq (b2 fMod (bVar 6) (cst (.int 5))) (cst (.int 0)))) (sClear 3) sNext fuel e = some (.nx e') ∧ Iv w c k o t y a b 10 e' := by
  by_cases h : k = 9
  · obtain ⟨u, s, rfl, h1, h2, h3⟩ := id I
    have c1 := bAnd_t (y := b2 fEq (b2 fMod (bVar 6) (cst (.int 5))) (cst (.int 0))) (show b2 fEq (bVar 4) (cst (.int 9)) (St w c k o t y a b u s) = some (.bl true) by rw [eqk I, decide_eq_true h])
    have n5 : (5 : Int) ≠ 0 := by decide
    have c2 : b2 fEq (b2 fMod (bVar 6) (cst (.int 5))) (cst (.int 0)) (St w c k o t y a b u s) = some (.bl (decide (t.fmod 5 = 0))) := by simp [St, fMod_i n5]
    by_cases z : t.fmod 5 = 0
    · refine ⟨_, (sIf_t (by rw [c1, c2, decide_eq_true z])).trans (show sClear 3 fuel _ = some (.nx (St w c k o t y a b [] s)) from ?_), [], s, rfl, by simp [keysI], by simp, fun z => by omega⟩
      simp [St]
      rfl
    · exact stay (by omega) I (by rw [c1, c2, decide_eq_false z])
  · exact stay (by omega) I (bAnd_f (by rw [eqk I, decide_eq_false h]))
end
end FN
end

set_option linter.all false
set_option Elab.async false
set_option maxRecDepth 100000
set_option maxHeartbeats 1000000
noncomputable section
namespace Lk57
open PySem L2 FW TL FT
/- hF -/
def F_shown : List D → Option RV := fnD 2 S_shown fuel
theorem hF_shown : ∀ ds r, F_shown ds = some r → ∃ n, fnD 2 S_shown n ds = some r := fun _ _ h => ⟨fuel, h⟩
def F_is_number : List D → Option RV := fnD 3 S_is_number fuel
theorem hF_is_number : ∀ ds r, F_is_number ds = some r → ∃ n, fnD 3 S_is_number n ds = some r := fun _ _ h => ⟨fuel, h⟩
def F_takes_numbers : List D → Option RV := fnD 2 S_takes_numbers fuel
theorem hF_takes_numbers : ∀ ds r, F_takes_numbers ds = some r → ∃ n, fnD 2 S_takes_numbers n ds = some r := fun _ _ h => ⟨fuel, h⟩
def F_read : List D → Option RV := fnD 5 (S_read F_takes_numbers F_is_number) fuel
theorem hF_read : ∀ ds r, F_read ds = some r → ∃ n, fnD 5 (S_read F_takes_numbers F_is_number) n ds = some r := fun _ _ h => ⟨fuel, h⟩
def F_law_order_drawn : List D → Option RV := fnD 11 (S_law_order_drawn FA.F_digits) fuel
theorem hF_law_order_drawn : ∀ ds r, F_law_order_drawn ds = some r → ∃ n, fnD 11 (S_law_order_drawn FA.F_digits) n ds = some r := fun _ _ h => ⟨fuel, h⟩
def F_law_due_text : List D → Option RV := fnD 3 S_law_due_text fuel
theorem hF_law_due_text : ∀ ds r, F_law_due_text ds = some r → ∃ n, fnD 3 S_law_due_text n ds = some r := fun _ _ h => ⟨fuel, h⟩
theorem hF_law_whole : ∀ ds r, FW.F_wholeN ds = some r → ∃ n, fnD 1 S_law_whole n ds = some r := fun _ _ h => ⟨fuel, h⟩
def F_law_is_order : List D → Option RV := fnD 3 (S_law_is_order FW.F_wholeN) fuel
theorem hF_law_is_order : ∀ ds r, F_law_is_order ds = some r → ∃ n, fnD 3 (S_law_is_order FW.F_wholeN) n ds = some r := fun _ _ h => ⟨fuel, h⟩
/- end -/
/-! numbers -/
theorem digs : tl (Str.ofString "0123456789") = [48, 49, 50, 51, 52, 53, 54, 55, 56, 57] := by rw [tl_ofString]; rfl
theorem isnum {n : Int} (h : n.natAbs < 1000000000000) : F_is_number [.str (sI n)] = some ⟨.bl true, false⟩ := by
  have r := rmp n
  have rl := rmp_len h
  have sl := sI_len h
  unfold MI at r rl
  generalize hf : Txt.removeprefix (sI n) (Str.ofString "-") = f at r rl
  have a1 : sSet 1 (eB (b2 fRmp (bVar 0) (cst (.str "-")))) fuel [.pu (.str (sI n)), .un, .un] = some (.nx [.pu (.str (sI n)), .pu (.str f), .un]) := by
    have : (sI n).length ≤ lim := by unfold lim; omega
    simp [fRmp, this, hf]
  have a2 : sIf (bNot (bLeLe (cst (.int 1)) (bn fLen (abCons (bVar 1) aNil)) (bE (eK (.int 12))))) (sRet (eB (cst (.bl false)))) sNext fuel [.pu (.str (sI n)), .pu (.str f), .un] = some (.nx [.pu (.str (sI n)), .pu (.str f), .un]) := by
    refine (sIf_f ?_).trans rfl
    have h1 : f.length ≤ lim := by unfold lim; omega
    have h2 : (1 : Int) ≤ (f.length : Nat) := by omega
    have h3 : ((f.length : Nat) : Int) ≤ 12 := by omega
    simp [bLeLe, fLen, h1, h2, h3]
  have hl : (tl f).length ≤ lim := by rw [← len_tl]; unfold lim; omega
  have g : eLc (srcS (eVar 1)) (gdName 2) (cst (.bl true)) (eB (b2 fInS (bVar 2) (bE (eK (.str "0123456789"))))) [2] [.pu (.str (sI n)), .pu (.str f), .un] = some ⟨.lst (((tl f).map fun c => D.str ⟨#[c]⟩).map fun _ => D.bl true), true⟩ := by
    refine eLc_all (w := fun _ => D.bl true) rfl (by rw [List.length_map]; exact hl) fun d hd => ?_
    obtain ⟨c, hc, rfl⟩ := List.mem_map.mp hd
    rw [r] at hc
    have hc' := numL_digits _ c hc
    refine ⟨_, rfl, false, ?_⟩
    have e1 : c ∈ (Str.ofString "0123456789").cps.toList := by
      rw [show (Str.ofString "0123456789").cps.toList = _ from digs]
      simp
      omega
    have e2 : fInS (.str ⟨#[c]⟩) (.str (Str.ofString "0123456789")) = some (.bl true) := by
      show some (D.bl (decide (c ∈ (Str.ofString "0123456789").cps.toList))) = _
      rw [decide_eq_true e1]
    simp [wipeE, e2]
  have a3 : sFrz 1 (sIf (bNot (bn fAll (abCons (bE (eLc (srcS (eVar 1)) (gdName 2) (cst (.bl true)) (eB (b2 fInS (bVar 2) (bE (eK (.str "0123456789"))))) [2])) aNil))) (sRet (eB (cst (.bl false)))) sNext) fuel [.pu (.str (sI n)), .pu (.str f), .un] = some (.nx [.pu (.str (sI n)), .pu (.str f), .un]) := by
    rw [sFrz_a, show frz 1 [Sl.pu (.str (sI n)), .pu (.str f), .un] = [Sl.pu (.str (sI n)), .pu (.str f), .un] from rfl]
    refine (sIf_f ?_).trans rfl
    simp only [bNot_a, bn_a, abCons_a, bE_a, g, Option.map_some, Option.bind_some, aNil_a, allT]
    rfl
  have a4 : sRet (eB (bOr (b2 fNe (b2 fIxS (bVar 1) (cst (.int 0))) (cst (.str "0"))) (b2 fEq (bVar 0) (cst (.str "0"))))) fuel [.pu (.str (sI n)), .pu (.str f), .un] = some (.rt ⟨.bl true, false⟩ [.pu (.str (sI n)), .pu (.str f), .un]) := by
    have h1 : f.length ≤ lim := by unfold lim; omega
    have z0 : tl (Str.ofString "0") = [48] := by rw [tl_ofString]; rfl
    cases q : numL n.natAbs with
    | nil => exact absurd q (numL_ne _)
    | cons c l =>
      rw [q] at r
      have e1 : atI f.cps.toList 0 = some c := by
        rw [show f.cps.toList = c :: l from r]
        simp [atI, ixN]
      by_cases h0 : n = 0
      · subst h0
        rw [show (0 : Int).natAbs = 0 from rfl, numL_zero] at q
        cases q
        have e2 : (⟨#[48]⟩ : Str) = Str.ofString "0" := ext_tl (by rw [z0])
        have e3 : sI 0 = Str.ofString "0" := rfl
        simp [fIxS, h1, e1, e2, e3]
      · have e2 : (⟨#[c]⟩ : Str) ≠ Str.ofString "0" := fun z => by
          have := congrArg tl z
          rw [z0] at this
          simp [tl] at this
          have h4 := numL_head n.natAbs (by omega)
          rw [q] at h4
          simp [this] at h4
        simp [fIxS, h1, e1, e2]
  unfold F_is_number S_is_number
  exact fnD_rt ((sSeq_nx a1).trans ((sSeq_nx a2).trans ((sSeq_nx a3).trans a4)))
/-! words -/
def wS : D → D
  | .int i => .str (sI i)
  | d => d
theorem map_wS (w : Str) (ns : List Int) : (D.str w :: ns.map D.int).map wS = (w :: ns.map sI).map D.str := by
  simp [wS]
theorem shown_c {w : Str} {ns : List Int} (hw : w.length ≤ 10) (hl : ns.length ≤ 60) (hn : ∀ n ∈ ns, n.natAbs < 1000000000000) : F_shown [.tup (.str w :: ns.map D.int)] = some ⟨.str (txt w ns), false⟩ := by
  have hd : (D.str w :: ns.map D.int).length ≤ lim := by simp [lim]; omega
  have g : eLcV 0 (gdName 1) (cst (.bl true)) (eB (bn fStrA (abCons (bVar 1) aNil))) [1] [.pu (.tup (.str w :: ns.map D.int)), .un] = some ⟨.lst ((w :: ns.map sI).map D.str), true⟩ := by
    rw [← map_wS]
    refine eLcV_all rfl rfl hd fun d hd => ?_
    refine ⟨_, rfl, false, ?_⟩
    rcases List.mem_cons.mp hd with rfl | hd
    · rfl
    · obtain ⟨n, hm, rfl⟩ := List.mem_map.mp hd
      have e : n.natAbs < 2 ^ 1900 := Nat.lt_of_lt_of_le (hn n hm) (by decide)
      have e2 : fStrA [.int n] = some (.str (sI n)) := if_pos e
      simp [wipeE, e2, wS]
  have s := sum_len ns hn
  have e : (((w :: ns.map sI).map (·.length)).sum + (w :: ns.map sI).length * SPC.length ≤ 16000000) := by
    have : SPC.length = 1 := by rw [len_tl, tl_SPC]; rfl
    rw [this]
    simp only [List.map_cons, List.sum_cons, List.length_cons, List.length_map]
    omega
  unfold F_shown S_shown
  refine fnD_rt (e := [.pu (.tup (.str w :: ns.map D.int)), .un]) ?_
  have j := join_txt w ns
  unfold SPC at e j
  have k : fJoinL (.str (Str.ofString " ")) (.lst ((w :: ns.map sI).map D.str)) = some (.str (txt w ns)) := by
    simp only [fJoinL, strsD_map, Option.bind_some]
    rw [if_pos e, j]
  show sRet _ fuel [.pu (.tup (.str w :: ns.map D.int)), .un] = _
  simp only [sRet_a, eB_a, b2_a, cst_a, bE_a, g, Option.map_some, Option.bind_some, k]
  rfl
/-! the law's text -/
theorem due_loop (w : Str) (T : D) : ∀ (ns : List Int) (a : Str) (s : Sl), a.length ≤ 900 → (∀ n ∈ ns, n.natAbs < 1000000000000) → a.length + 14 * ns.length ≤ 900 →
    ∃ s', loopF (gdName 2) (sSet 1 (eB (b2 fAdd (b2 fAdd (bVar 1) (cst (.str " "))) (bn fStr (abCons (bVar 2) aNil))))) fuel (ns.map D.int) [.pu T, .pu (.str a), s] = some (.nx [.pu T, .pu (.str (txt a ns)), s'])
  | [], a, s, _, _, _ => ⟨s, rfl⟩
  | n :: ns, a, s, ha, hn, hl => by
    have h1 := sI_len (hn n List.mem_cons_self)
    have hs : SPC.length = 1 := by rw [len_tl, tl_SPC]; rfl
    have h2 : (a ++ SPC).length = a.length + 1 := by rw [len_tl, tl_append, tl_SPC, len_tl a]; simp
    have h3 : (a ++ SPC ++ sI n).length = a.length + 1 + (sI n).length := by
      rw [len_tl, tl_append, tl_append, tl_SPC, len_tl a, len_tl (sI n)]
      simp
      omega
    simp only [List.length_cons] at hl
    obtain ⟨s', ih⟩ := due_loop w T ns (a ++ SPC ++ sI n) (.pu (.int n)) (by omega) (fun m hm => hn m (List.mem_cons_of_mem _ hm)) (by omega)
    refine ⟨s', ?_⟩
    have e0 : n.natAbs < 2 ^ 1900 := Nat.lt_of_lt_of_le (hn n List.mem_cons_self) (by decide)
    have e1 : fStr [.int n] = some (.str (sI n)) := if_pos e0
    have e2 : fAdd (.str a) (.str (Str.ofString " ")) = some (.str (a ++ SPC)) := if_pos (by have : (Str.ofString " ").length = 1 := hs; omega)
    have e3 : fAdd (.str (a ++ SPC)) (.str (sI n)) = some (.str (a ++ SPC ++ sI n)) := if_pos (by omega)
    rw [List.map_cons, loopF]
    simp only [gdName, List.set_cons_succ, List.set_cons_zero, Option.bind_some, sSet_a, eB_a, b2_a, bVar_a, cst_a, bn_a, abCons_a, aNil_a, List.getElem?_cons_zero, List.getElem?_cons_succ, e1, e2, e3, Option.map_some, slotOf]
    exact ih
theorem cut1 (w : D) (l : List D) : cutD (w :: l) (some 1) none = l := by
  simp [cutD, HT.sIx]
theorem sl_tup {i : Nat} {env : En} {w : D} {l : List D} (h : bVar i env = some (.tup (w :: l))) : eSlice (bVar i) (oInt (cst (.int 1))) oNone env = some ⟨.tup l, false⟩ := by
  have e : oInt (cst (.int 1)) env = some (some 1) := rfl
  have e2 : oNone env = some none := rfl
  unfold eSlice
  rw [h, e, e2]
  simp only [Option.bind_some, cut1]
  rw [if_neg (by simp [HT.sIx])]
theorem sl_lst {i : Nat} {env : En} {w : D} {l : List D} (h : bVar i env = some (.lst (w :: l))) : eSlice (bVar i) (oInt (cst (.int 1))) oNone env = some ⟨.lst l, true⟩ := by
  have e : oInt (cst (.int 1)) env = some (some 1) := rfl
  have e2 : oNone env = some none := rfl
  unfold eSlice
  rw [h, e, e2]
  simp only [Option.bind_some, cut1]
theorem due_c {w : Str} {ns : List Int} (hw : w.length ≤ 10) (hl : ns.length ≤ 60) (h0 : ns ≠ []) (hn : ∀ n ∈ ns, n.natAbs < 1000000000000) : F_law_due_text [.tup (.str w :: ns.map D.int)] = some ⟨.str (txt w ns), false⟩ := by
  obtain ⟨s', L⟩ := due_loop w (.tup (.str w :: ns.map D.int)) ns w .un (by omega) hn (by omega)
  unfold F_law_due_text S_law_due_text
  have a1 : sSet 1 (eIx (bVar 0) (cst (.int 0))) fuel [.pu (.tup (.str w :: ns.map D.int)), .un, .un] = some (.nx [.pu (.tup (.str w :: ns.map D.int)), .pu (.str w), .un]) := by
    simp [ixD, atI, ixN]
  have a2 : sFor (srcT (eSlice (bVar 0) (oInt (cst (.int 1))) oNone)) (gdName 2) (sSet 1 (eB (b2 fAdd (b2 fAdd (bVar 1) (cst (.str " "))) (bn fStr (abCons (bVar 2) aNil))))) fuel [.pu (.tup (.str w :: ns.map D.int)), .pu (.str w), .un] = some (.nx [.pu (.tup (.str w :: ns.map D.int)), .pu (.str (txt w ns)), s']) := by
    refine sFor_of ?_ L
    rw [srcT_a, sl_tup (w := .str w) (l := ns.map D.int) rfl]
    rfl
  exact fnD_rt ((sSeq_nx a1).trans ((sSeq_nx a2).trans rfl))
/-! reading -/
def NO : List (Key × D) := [(.inr "push", .int 1), (.inr "pull", .int 1), (.inr "burst", .int 1), (.inr "part", .int 4), (.inr "blow", .int 3), (.inr "wait", .int 2)]
/-- the words, and how many numbers each takes -/
def Ok (w : Str) (k : Nat) : Prop := (w = Str.ofString "begin" ∧ 3 ≤ k) ∨ (w ≠ Str.ofString "begin" ∧ valD NO (.inr w) = some (.int k))
theorem takes_c {w : Str} {k : Nat} (h : Ok w k) : F_takes_numbers [.str w, .int k] = some ⟨.bl true, false⟩ := by
  unfold F_takes_numbers S_takes_numbers
  refine fnD_rt (e := [.pu (.str w), .pu (.int k)]) ?_
  show sSeq _ _ fuel [.pu (.str w), .pu (.int k)] = _
  rcases h with ⟨rfl, h⟩ | ⟨h1, h2⟩
  · have : (3 : Int) ≤ k := by omega
    simp [this]
  · refine (sSeq_nx ((sIf_f (by simp [h1])).trans rfl)).trans ?_
    have e1 : bInK NO (bVar 0) [.pu (.str w), .pu (.int k)] = some (.bl true) := by
      unfold bInK
      simp [h2]
    have e2 : bIxK NO (bVar 0) [.pu (.str w), .pu (.int k)] = some (.int k) := by
      unfold bIxK
      simp [h2]
    unfold NO at e1 e2
    simp only [sRet_a, eB_a, bAnd_a, e1, Option.bind_some, b2_a, e2, bVar_a, List.getElem?_cons_zero, List.getElem?_cons_succ, Option.map_some, fEq_i]
    simp
theorem read_c {w : Str} {ns : List Int} (hw : w.length ≤ 10) (hb : 32 ∉ tl w) (hl : ns.length ≤ 60) (hk : Ok w ns.length) (hn : ∀ n ∈ ns, n.natAbs < 1000000000000) : F_read [.str (txt w ns)] = some ⟨.tup (.str w :: ns.map D.int), false⟩ := by
  have tlen := txt_len ns w hn
  have sp := split_txt hb ns
  unfold SPC at sp
  have hs : ((Str.ofString " ").length == 0) = false := by
    have : SPC.length = 1 := by rw [len_tl, tl_SPC]; rfl
    rw [show (Str.ofString " ").length = 1 from this]
    rfl
  let T : D := .str (txt w ns)
  let L : D := .lst (.str w :: (ns.map sI).map D.str)
  let N : D := .lst ((ns.map sI).map D.str)
  have a1 : sSet 1 (eSplit (bVar 0) (cst (.str " "))) fuel [.pu T, .un, .un, .un, .un] = some (.nx [.pu T, .mu L, .un, .un, .un]) := by
    have e : (((Str.ofString " ").length == 0) = false ∧ (txt w ns).length + 2 ≤ lim) := ⟨hs, by unfold lim; omega⟩
    have : eSplit (bVar 0) (cst (.str " ")) [.pu T, .un, .un, .un, .un] = some ⟨L, true⟩ := by
      show (if ((Str.ofString " ").length == 0) = false ∧ (txt w ns).length + 2 ≤ lim then some (⟨.lst ((Txt.split (txt w ns) (Str.ofString " ")).map .str), true⟩ : RV) else none) = _
      rw [if_pos e, sp]
      rfl
    rw [sSet_a, this]
    rfl
  have a2 : sSet 2 (eIx (bVar 1) (cst (.int 0))) fuel [.pu T, .mu L, .un, .un, .un] = some (.nx [.pu T, .mu L, .pu (.str w), .un, .un]) := by
    simp [L, ixD, atI, ixN]
  have a3 : sSet 3 (eSlice (bVar 1) (oInt (cst (.int 1))) oNone) fuel [.pu T, .mu L, .pu (.str w), .un, .un] = some (.nx [.pu T, .mu L, .pu (.str w), .mu N, .un]) := by
    rw [sSet_a, sl_lst (w := .str w) (l := (ns.map sI).map D.str) rfl]
    rfl
  have hN : ((ns.map sI).map D.str).length ≤ lim := by simp [lim]; omega
  have g1 : eLcV 3 (gdName 4) (cst (.bl true)) (eCallN 1 F_is_number (aCons (eVar 4) aNil)) [4] [.pu T, .mu L, .pu (.str w), .pu N, .un] = some ⟨.lst (((ns.map sI).map D.str).map fun _ => .bl true), true⟩ := by
    refine eLcV_all (w := fun _ => D.bl true) rfl rfl hN fun d hd => ?_
    obtain ⟨z, hz, rfl⟩ := List.mem_map.mp hd
    obtain ⟨n, hm, rfl⟩ := List.mem_map.mp hz
    refine ⟨_, rfl, false, ?_⟩
    show (if 1 = 1 then F_is_number [.str (sI n)] else none) = _
    rw [if_pos rfl, isnum (hn n hm)]
  have g2 : eLcV 3 (gdName 4) (cst (.bl true)) (eB (bn fIntS (abCons (bVar 4) aNil))) [4] [.pu T, .mu L, .pu (.str w), .pu N, .un] = some ⟨.lst (ns.map D.int), true⟩ := by
    have := eLcV_all (i := 3) (gd := gdName 4) (ex := eB (bn fIntS (abCons (bVar 4) aNil))) (vs := [4]) (env := [.pu T, .mu L, .pu (.str w), .pu N, .un]) (ds := (ns.map sI).map D.str) (w := fun d => match d with | .str x => .int ((PySem.intText? x).getD 0) | d => d) rfl rfl hN fun d hd => by
      obtain ⟨z, hz, rfl⟩ := List.mem_map.mp hd
      obtain ⟨n, hm, rfl⟩ := List.mem_map.mp hz
      refine ⟨_, rfl, false, ?_⟩
      have h1 := sI_len (hn n hm)
      have e : fIntS [.str (sI n)] = some (.int n) := by
        show (if (sI n).length ≤ 640 then (PySem.intText? (sI n)).map D.int else none) = _
        rw [if_pos (by omega), reads (hn n hm)]
        rfl
      simp only [reads (hn n hm), Option.getD_some]
      simp [wipeE, e]
    rw [this]
    congr 3
    rw [List.map_map, List.map_map]
    refine List.map_congr_left fun n hm => ?_
    simp [reads (hn n hm)]
  have hlen : fLen [N] = some (.int ns.length) := by
    show some (D.int (((ns.map sI).map D.str).length : Nat)) = _
    simp
  have a4 : sFrz 3 (sIf (bOr (bNot (bE (eCallN 2 F_takes_numbers (aCons (eVar 2) (aCons (eB (bn fLen (abCons (bVar 3) aNil))) aNil))))) (bNot (bn fAll (abCons (bE (eLcV 3 (gdName 4) (cst (.bl true)) (eCallN 1 F_is_number (aCons (eVar 4) aNil)) [4])) aNil)))) sNever sNext) fuel [.pu T, .mu L, .pu (.str w), .mu N, .un] = some (.nx [.pu T, .mu L, .pu (.str w), .pu N, .un]) := by
    rw [sFrz_a, show frz 3 [Sl.pu T, .mu L, .pu (.str w), .mu N, .un] = [Sl.pu T, .mu L, .pu (.str w), .pu N, .un] from rfl]
    refine (sIf_f ?_).trans rfl
    have e1 : eCallN 2 F_takes_numbers (aCons (eVar 2) (aCons (eB (bn fLen (abCons (bVar 3) aNil))) aNil)) [.pu T, .mu L, .pu (.str w), .pu N, .un] = some ⟨.bl true, false⟩ := by
      have := takes_c hk
      simp [hlen, this]
    simp only [bOr_a, bNot_a, bE_a, e1, bn_a, abCons_a, aNil_a, g1, Option.map_some, Option.bind_some, allT]
    rfl
  have a5 : sFrz 3 (sRet (eTupL (bE (eCat (bE (eLst (aCons (eVar 2) aNil))) (bE (eLcV 3 (gdName 4) (cst (.bl true)) (eB (bn fIntS (abCons (bVar 4) aNil))) [4])))))) fuel [.pu T, .mu L, .pu (.str w), .pu N, .un] = some (.rt ⟨.tup (.str w :: ns.map D.int), false⟩ [.pu T, .mu L, .pu (.str w), .pu N, .un]) := by
    rw [sFrz_a, show frz 3 [Sl.pu T, .mu L, .pu (.str w), .pu N, .un] = [Sl.pu T, .mu L, .pu (.str w), .pu N, .un] from rfl]
    have hz : ([D.str w] : List D).length + (ns.map D.int).length ≤ lim := by simp [lim]; omega
    have l1 : eLst (aCons (eVar 2) aNil) [.pu T, .mu L, .pu (.str w), .pu N, .un] = some ⟨.lst [.str w], true⟩ := by simp [lim]
    have c1 : eCat (bE (eLst (aCons (eVar 2) aNil))) (bE (eLcV 3 (gdName 4) (cst (.bl true)) (eB (bn fIntS (abCons (bVar 4) aNil))) [4])) [.pu T, .mu L, .pu (.str w), .pu N, .un] = some ⟨.lst (.str w :: ns.map D.int), true⟩ := by
      unfold eCat
      simp only [bE_a, l1, g2, Option.map_some, Option.bind_some]
      rw [if_pos hz]
      rfl
    simp only [sRet_a, eTupL_a, bE_a, c1, Option.map_some, Option.bind_some]
    rfl
  unfold F_read S_read
  exact fnD_rt ((sSeq_nx a1).trans ((sSeq_nx a2).trans ((sSeq_nx a3).trans ((sSeq_nx a4).trans a5))))
/-! held side by side -/
theorem okT {w : Str} (hw : PyData.strOk w = true) (ns : List Int) : okP (.tup (.str w :: ns.map D.int)) = true := by
  have h : ∀ l : List Int, noDics (l.map D.int) = true ∧ PyData.canLayAll0 (toPs (l.map D.int)) = true ∧ PyData.depthAll (toPs (l.map D.int)) ≤ 2 := by
    intro l
    induction l with
    | nil => simp [noDics, toPs, PyData.canLayAll0, PyData.depthAll]
    | cons a l ih =>
      simp [noDics, toPs, PyData.canLayAll0, PyData.depthAll, ih, noDic, toP, PyData.canLay0, PyData.depth]
  obtain ⟨h1, h2, h3⟩ := h ns
  simp only [okP, noDic, noDics, h1, toP, toPs, SeqAt.shaped, PyData.canLay0, PyData.canLayAll0, h2, PyData.depth, PyData.depthAll, Bool.true_and, Bool.and_true]
  simp [hw]
  omega
theorem eqT {w : Str} (hw : PyData.strOk w = true) (ns : List Int) : fEq (.tup (.str w :: ns.map D.int)) (.tup (.str w :: ns.map D.int)) = some (.bl true) := by
  have h : ∀ l : List Int, PyData.eqvAll (toPs (l.map D.int)) (toPs (l.map D.int)) = true := by
    intro l
    induction l with
    | nil => simp [toPs, PyData.eqvAll]
    | cons a l ih => simp [toPs, PyData.eqvAll, ih, toP, PyData.eqv]
  unfold fEq
  simp [D.at, okT hw, toP, toPs, PyData.eqv, PyData.eqvAll, h]
theorem whole_c (n : Int) : FW.F_wholeN [.int n] = some ⟨.bl true, false⟩ := by
  unfold FW.F_wholeN S_whole
  simp [fnD_a]
theorem isord_c {w : Str} {ns : List Int} (hw : PyData.strOk w = true) (hl : ns.length ≤ 60) : F_law_is_order [.tup (.str w :: ns.map D.int), .tup (.str w :: ns.map D.int)] = some ⟨.bl true, false⟩ := by
  let T : D := .tup (.str w :: ns.map D.int)
  have a1 : sIf (bOr (bNot (b1 (fIs "tuple") (bVar 0))) (bOr (b2 fNe (bn fLen (abCons (bVar 0) aNil)) (bn fLen (abCons (bVar 1) aNil))) (bNot (b1 (fIs "str") (bE (eIx (bVar 0) (cst (.int 0)))))))) (sRet (eB (cst (.bl false)))) sNext fuel [.pu T, .pu T, .un] = some (.nx [.pu T, .pu T, .un]) := by
    refine (sIf_f ?_).trans rfl
    simp [T, fLen, ixD, atI, ixN]
  have g : eLc (srcT (eSlice (bVar 0) (oInt (cst (.int 1))) oNone)) (gdName 2) (cst (.bl true)) (eCallN 1 FW.F_wholeN (aCons (eVar 2) aNil)) [2] [.pu T, .pu T, .un] = some ⟨.lst ((ns.map D.int).map fun _ => D.bl true), true⟩ := by
    refine eLc_all (w := fun _ => D.bl true) ?_ (by simp [lim]; omega) fun d hd => ?_
    · rw [srcT_a, sl_tup (w := .str w) (l := ns.map D.int) rfl]
      rfl
    · obtain ⟨n, hm, rfl⟩ := List.mem_map.mp hd
      refine ⟨_, rfl, false, ?_⟩
      show (if 1 = 1 then FW.F_wholeN [.int n] else none) = _
      rw [if_pos rfl, whole_c]
  unfold F_law_is_order S_law_is_order
  refine fnD_rt (e := [.pu T, .pu T, .un]) ((sSeq_nx a1).trans ?_)
  simp only [sRet_a, eB_a, bAnd_a, bn_a, abCons_a, bE_a, g, aNil_a, Option.map_some, Option.bind_some, allT, b2_a, bVar_a, List.getElem?_cons_zero, List.getElem?_cons_succ]
  show Option.map _ ((fEq T T).bind _) = _
  rw [eqT hw]
  rfl
/-! orders as they are drawn -/
structure GO (w : Str) (ns : List Int) : Prop where
  len : w.length ≤ 10
  bl : 32 ∉ tl w
  so : PyData.strOk w = true
  ne : ns ≠ []
  nl : ns.length ≤ 60
  ok : Ok w ns.length
  rg : ∀ n ∈ ns, n.natAbs < 1000000000000
theorem pow12 {env : En} : b2 fPow (cst (.int 10)) (cst (.int 12)) env = some (.int 1000000000000) := by rfl
theorem ok12 : FA.okS 1000000000000 = true := by
  unfold FA.okS
  rw [decide_eq_true (by decide : (1000000000000 : Int) ≠ 0), decide_eq_true (lt_big (by decide) : (1000000000000 : Int).natAbs < big)]
  rfl
theorem goL_len (c : Int) : ∀ (ss : List Int) (k : Nat) (r : Int), (FA.goL c k r ss).length = ss.length
  | [], _, _ => rfl
  | s :: ss, k, r => by simp [FA.goL, goL_len c ss]
theorem goL_rng (c M : Int) : ∀ (ss : List Int) (k : Nat) (r : Int), (∀ s ∈ ss, 0 < s ∧ s ≤ M) → ∀ x ∈ FA.goL c k r ss, 0 ≤ x ∧ x < M
  | [], _, _, _, x, hx => by simp [FA.goL] at hx
  | s :: ss, k, r, h, x, hx => by
    unfold FA.goL at hx
    rcases List.mem_cons.mp hx with rfl | hx
    · have h1 := h s List.mem_cons_self
      have := FA.fmod_range (a := if r < s then FA.seedL (r + 131 * (k : Int) + Int.fmod c 1009) else r) h1.1
      exact ⟨this.1, by have := this.2; omega⟩
    · exact goL_rng c M ss _ _ (fun t ht => h t (List.mem_cons_of_mem _ ht)) x hx
theorem digits6 (c : Int) : ∃ k a b d e f, FA.F_digits [.int c, .lst [.int 7, .int 1000000000000, .int 1000000000000, .int 1000000000000, .int 1000000000000, .int 4]] = some ⟨.lst [.int k, .int a, .int b, .int d, .int e, .int f], true⟩ ∧ 0 ≤ k ∧ k < 7 ∧ (0 ≤ a ∧ a < 1000000000000) ∧ (0 ≤ b ∧ b < 1000000000000) ∧ (0 ≤ d ∧ d < 1000000000000) ∧ (0 ≤ e ∧ e < 1000000000000) ∧ 0 ≤ f ∧ f < 4 := by
  have h1 := fun t => FA.fmod_range (a := t) (b := 7) (by decide)
  have h2 := fun t => FA.fmod_range (a := t) (b := 1000000000000) (by decide)
  have h3 := fun t => FA.fmod_range (a := t) (b := 4) (by decide)
  have : ∃ k a b d e f, FA.digL c [7, 1000000000000, 1000000000000, 1000000000000, 1000000000000, 4] = [k, a, b, d, e, f] ∧ 0 ≤ k ∧ k < 7 ∧ (0 ≤ a ∧ a < 1000000000000) ∧ (0 ≤ b ∧ b < 1000000000000) ∧ (0 ≤ d ∧ d < 1000000000000) ∧ (0 ≤ e ∧ e < 1000000000000) ∧ 0 ≤ f ∧ f < 4 :=
    ⟨_, _, _, _, _, _, rfl, (h1 _).1, (h1 _).2, h2 _, h2 _, h2 _, h2 _, (h3 _).1, (h3 _).2⟩
  obtain ⟨k, a, b, d, e, f, e1, h⟩ := this
  refine ⟨k, a, b, d, e, f, ?_, h⟩
  simp [FA.F_digits, FA.intsD, ok12, FS.okS_c (show (0 : Int) < 7 by decide) (by decide), FS.okS_c (show (0 : Int) < 4 by decide) (by decide), e1]
theorem digitsN (c : Int) (m : Nat) (hm : m ≤ 900) : ∃ zs : List Int, FA.F_digits [.int c, .lst ((List.replicate m (1000000000000 : Int)).map D.int)] = some ⟨.lst (zs.map D.int), true⟩ ∧ zs.length = m ∧ ∀ z ∈ zs, z.natAbs < 1000000000000 := by
  refine ⟨FA.digL c (List.replicate m 1000000000000), ?_, by rw [FA.digL, goL_len]; simp, fun z hz => ?_⟩
  · have : (List.replicate m (1000000000000 : Int)).all FA.okS = true := by
      rw [List.all_eq_true]
      intro x hx
      rw [(List.mem_replicate.mp hx).2]
      exact ok12
    unfold FA.F_digits
    simp only [FA.intsD_map, Option.bind_some, this, Bool.true_and, List.length_replicate]
    rw [if_pos (by simp; omega)]
  · have := goL_rng c 1000000000000 _ _ _ (fun s hs => by rw [(List.mem_replicate.mp hs).2]; decide) z hz
    omega
theorem digits45 (c : Int) : ∃ (x y : Int) (zs : List Int), FA.F_digits [.int c, .lst ((7 :: 1000 :: List.replicate 43 (1000000000000 : Int)).map D.int)] = some ⟨.lst ((x :: y :: zs).map D.int), true⟩ ∧ 0 ≤ x ∧ x < 7 ∧ 0 ≤ y ∧ y < 1000 ∧ zs.length = 43 ∧ ∀ z ∈ zs, z.natAbs < 1000000000000 := by
  have h1 := fun t => FA.fmod_range (a := t) (b := 7) (by decide)
  have h2 := fun t => FA.fmod_range (a := t) (b := 1000) (by decide)
  have : ∃ (x y : Int) (zs : List Int), FA.digL c (7 :: 1000 :: List.replicate 43 (1000000000000 : Int)) = x :: y :: zs ∧ 0 ≤ x ∧ x < 7 ∧ 0 ≤ y ∧ y < 1000 ∧ zs.length = 43 ∧ ∀ z ∈ zs, z.natAbs < 1000000000000 := by
    refine ⟨_, _, _, rfl, (h1 _).1, (h1 _).2, (h2 _).1, (h2 _).2, ?_, fun z hz => ?_⟩
    · rw [goL_len]; simp
    · have := goL_rng c 1000000000000 _ _ _ (fun s hs => by rw [(List.mem_replicate.mp hs).2]; decide) z hz
      omega
  obtain ⟨x, y, zs, e1, h⟩ := this
  refine ⟨x, y, zs, ?_, h⟩
  have : (7 :: 1000 :: List.replicate 43 (1000000000000 : Int)).all FA.okS = true := by
    rw [List.all_eq_true]
    intro x hx
    rcases List.mem_cons.mp hx with rfl | hx
    · exact FS.okS_c (by decide) (by decide)
    rcases List.mem_cons.mp hx with rfl | hx
    · exact FS.okS_c (by decide) (by decide)
    rw [(List.mem_replicate.mp hx).2]
    exact ok12
  unfold FA.F_digits
  simp only [FA.intsD_map, Option.bind_some, this, Bool.true_and, e1]
  rw [if_pos (by simp)]
def OD0 : SX := sAsg (eCallN 2 FA.F_digits (aCons (eVar 0) (aCons (eLst (aCons (eB (cst (.int 7))) (aCons (eB (b2 fPow (cst (.int 10)) (cst (.int 12)))) (aCons (eB (b2 fPow (cst (.int 10)) (cst (.int 12)))) (aCons (eB (b2 fPow (cst (.int 10)) (cst (.int 12)))) (aCons (eB (b2 fPow (cst (.int 10)) (cst (.int 12)))) (aCons (eB (cst (.int 4))) aNil))))))) aNil))) (gdSeq [3, 4, 5, 6, 7, 8])
def OD1 : SX := sSet 1 (eLst (aCons (eVar 4) (aCons (eVar 5) (aCons (eVar 6) (aCons (eVar 7) aNil)))))
def OD2 : SX := sIf (b2 fLt (bVar 8) (cst (.int 2))) (sFrz 1 (sSet 1 (eLcV 1 (gdName 10) (cst (.bl true)) (eB (b2 fSub (b2 fMod (bVar 10) (bE (eIx (bE (eLst (aCons (eB (cst (.int 12))) (aCons (eB (cst (.int 400))) aNil)))) (bVar 8)))) (cst (.int 3)))) [10]))) sNext
def OD3 : SX := sIf (b2 fEq (bVar 8) (cst (.int 2))) (sSet 1 (eLst (aCons (eB (b2 fSub (b2 fSub (b2 fPow (cst (.int 10)) (cst (.int 12))) (cst (.int 1))) (b2 fMod (bVar 4) (cst (.int 3))))) (aCons (eB (b2 fAdd (b2 fSub (cst (.int 1)) (b2 fPow (cst (.int 10)) (cst (.int 12)))) (b2 fMod (bVar 5) (cst (.int 3))))) (aCons (eB (cst (.int 0))) (aCons (eB (b1 fNeg (cst (.int 1)))) aNil)))))) sNext
def OD4 : SX := sIf (b2 fEq (bVar 3) (cst (.int 6))) (sSeq (sSet 9 (eCallN 2 FA.F_digits (aCons (eB (b2 fAdd (bVar 0) (cst (.int 1)))) (aCons (eRep (eLst (aCons (eB (b2 fPow (cst (.int 10)) (cst (.int 12)))) aNil)) (b2 fAdd (cst (.int 1)) (b2 fMod (bVar 4) (cst (.int 36))))) aNil)))) (sRet (eCatT (eTup (aCons (eB (cst (.str "begin"))) (aCons (eIx (bVar 1) (cst (.int 0))) (aCons (eIx (bVar 1) (cst (.int 1))) aNil)))) (eTupL (bVar 9))))) sNext
def OD5 : SX := sSet 2 (eIx (bE (eLst (aCons (eB (cst (.str "push"))) (aCons (eB (cst (.str "pull"))) (aCons (eB (cst (.str "burst"))) (aCons (eB (cst (.str "part"))) (aCons (eB (cst (.str "blow"))) (aCons (eB (cst (.str "wait"))) aNil)))))))) (bVar 3))
def OD6 : SX := sRet (eCatT (eTup (aCons (eVar 2) aNil)) (eTupL (bE (eSlice (bVar 1) oNone (oInt (bE (eIx (bE (eLst (aCons (eB (cst (.int 1))) (aCons (eB (cst (.int 1))) (aCons (eB (cst (.int 1))) (aCons (eB (cst (.int 4))) (aCons (eB (cst (.int 3))) (aCons (eB (cst (.int 2))) aNil)))))))) (bVar 3))))))))
theorem od_eq : S_law_order_drawn FA.F_digits = sSeq OD0 (sSeq OD1 (sSeq OD2 (sSeq OD3 (sSeq OD4 (sSeq OD5 OD6))))) := rfl
def E (c : Int) (ms nm : Sl) (k a b d e f : Int) (mo : Sl) : En := [.pu (.int c), ms, nm, .pu (.int k), .pu (.int a), .pu (.int b), .pu (.int d), .pu (.int e), .pu (.int f), mo, .un]
def M4 (p q r t : Int) : Sl := .mu (.lst [.int p, .int q, .int r, .int t])
def R4 (p q r t : Int) : Prop := p.natAbs < 1000000000000 ∧ q.natAbs < 1000000000000 ∧ r.natAbs < 1000000000000 ∧ t.natAbs < 1000000000000
section
variable {c k a b d e f p q r t : Int}
theorem od0 (hd : FA.F_digits [.int c, .lst [.int 7, .int 1000000000000, .int 1000000000000, .int 1000000000000, .int 1000000000000, .int 4]] = some ⟨.lst [.int k, .int a, .int b, .int d, .int e, .int f], true⟩) :
    OD0 fuel [.pu (.int c), .un, .un, .un, .un, .un, .un, .un, .un, .un, .un] = some (.nx (E c .un .un k a b d e f .un)) := by
  unfold OD0
  simp only [sAsg_a, eCallN_a, aCons_a, eVar_a, eLst_a, eB_a, cst_a, pow12, aNil_a]
  simp [lim, hd, gdSeq, setAll, E]
theorem od1 : OD1 fuel (E c .un .un k a b d e f .un) = some (.nx (E c (M4 a b d e) .un k a b d e f .un)) := by
  unfold OD1
  simp [E, M4, lim]
theorem od2 (hr : R4 a b d e) (h0 : 0 ≤ f) : ∃ p q r t, OD2 fuel (E c (M4 a b d e) .un k a b d e f .un) = some (.nx (E c (M4 p q r t) .un k a b d e f .un)) ∧ R4 p q r t := by
  unfold OD2
  by_cases hf : f < 2
  · have m1 := fun z => FA.fmod_range (a := z) (b := 12) (by decide)
    have m2 := fun z => FA.fmod_range (a := z) (b := 400) (by decide)
    rcases (by omega : f = 0 ∨ f = 1) with rfl | rfl
    · refine ⟨a.fmod 12 - 3, b.fmod 12 - 3, d.fmod 12 - 3, e.fmod 12 - 3, ?_, ?_⟩
      · simp [E, M4, lim, frz, itemsD, lcD, lcGo_s, lcGo_0, gdName, wipeE, ixD, atI, ixN, fMod_i]
      · have := m1 a; have := m1 b; have := m1 d; have := m1 e
        unfold R4
        omega
    · refine ⟨a.fmod 400 - 3, b.fmod 400 - 3, d.fmod 400 - 3, e.fmod 400 - 3, ?_, ?_⟩
      · simp [E, M4, lim, frz, itemsD, lcD, lcGo_s, lcGo_0, gdName, wipeE, ixD, atI, ixN, fMod_i]
      · have := m2 a; have := m2 b; have := m2 d; have := m2 e
        unfold R4
        omega
  · refine ⟨a, b, d, e, (sIf_f ?_).trans rfl, hr⟩
    simp [E, hf]
theorem od3 (hr : R4 p q r t) : ∃ p' q' r' t', OD3 fuel (E c (M4 p q r t) .un k a b d e f .un) = some (.nx (E c (M4 p' q' r' t') .un k a b d e f .un)) ∧ R4 p' q' r' t' := by
  unfold OD3
  by_cases hf : f = 2
  · subst hf
    have m1 := fun z => FA.fmod_range (a := z) (b := 3) (by decide)
    refine ⟨1000000000000 - 1 - a.fmod 3, 1 - 1000000000000 + b.fmod 3, 0, -1, ?_, ?_⟩
    · refine (sIf_t (by simp [E])).trans ?_
      simp only [sSet_a, eLst_a, aCons_a, eB_a, b2_a (f := fSub), b2_a (f := fAdd), pow12]
      simp [E, M4, lim, fMod_i, fNeg]
    · have := m1 a; have := m1 b
      unfold R4
      omega
  · refine ⟨p, q, r, t, (sIf_f ?_).trans rfl, hr⟩
    simp [E, hf]
theorem go_begin {p q : Int} {zs : List Int} {m : Nat} (hr : R4 p q r t) (hz : zs.length = m) (h1 : 1 ≤ m) (h2 : m ≤ 50) (h : ∀ z ∈ zs, z.natAbs < 1000000000000) : GO (Str.ofString "begin") (p :: q :: zs) where
  len := by decide +kernel
  bl := by decide +kernel
  so := by decide +kernel
  ne := by simp
  nl := by simp; omega
  ok := .inl ⟨rfl, by simp; omega⟩
  rg := fun n hn => by
    rcases List.mem_cons.mp hn with rfl | hn
    · exact hr.1
    rcases List.mem_cons.mp hn with rfl | hn
    · exact hr.2.1
    exact h n hn
theorem od4_6 (hr : R4 p q r t) (ha : 0 ≤ a) : ∃ (zs : List Int) (e' : En), OD4 fuel (E c (M4 p q r t) .un 6 a b d e f .un) = some (.rt ⟨.tup (.str (Str.ofString "begin") :: (p :: q :: zs).map D.int), false⟩ e') ∧ GO (Str.ofString "begin") (p :: q :: zs) := by
  have m1 := FA.fmod_range (a := a) (b := 36) (by decide)
  obtain ⟨zs, hd, hz, hr2⟩ := digitsN (c + 1) (1 + a.fmod 36).toNat (by omega)
  refine ⟨zs, E c (M4 p q r t) .un 6 a b d e f (.mu (.lst (zs.map D.int))), ?_, go_begin hr hz (by omega) (by omega) hr2⟩
  unfold OD4
  refine (sIf_t (by simp [E])).trans ?_
  have fl : (List.replicate (1 + a.fmod 36).toNat [D.int 1000000000000]).flatten = (List.replicate (1 + a.fmod 36).toNat (1000000000000 : Int)).map D.int := by
    rw [List.map_replicate]
    generalize (1 + a.fmod 36).toNat = m
    induction m with
    | zero => rfl
    | succ m ih => rw [List.replicate_succ, List.flatten_cons, ih, List.replicate_succ]; rfl
  have e1 : eRep (eLst (aCons (eB (b2 fPow (cst (.int 10)) (cst (.int 12)))) aNil)) (b2 fAdd (cst (.int 1)) (b2 fMod (bVar 4) (cst (.int 36)))) (E c (M4 p q r t) .un 6 a b d e f .un) = some ⟨.lst ((List.replicate (1 + a.fmod 36).toNat (1000000000000 : Int)).map D.int), true⟩ := by
    rw [← fl]
    have h3 : ([D.int 1000000000000] : List D).length * (1 + a.fmod 36).toNat ≤ lim ∧ -1000000 ≤ 1 + a.fmod 36 ∧ 1 + a.fmod 36 ≤ 1000000 := by
      refine ⟨by simp [lim]; omega, by omega, by omega⟩
    have h4 : eLst (aCons (eB (b2 fPow (cst (.int 10)) (cst (.int 12)))) aNil) (E c (M4 p q r t) .un 6 a b d e f .un) = some ⟨.lst [.int 1000000000000], true⟩ := by
      simp only [eLst_a, aCons_a, eB_a, pow12, aNil_a]
      simp [lim]
    have h5 : b2 fAdd (cst (.int 1)) (b2 fMod (bVar 4) (cst (.int 36))) (E c (M4 p q r t) .un 6 a b d e f .un) = some (.int (1 + a.fmod 36)) := by
      simp [E, fMod_i]
    rw [eRep_a, h4, h5]
    simp only [Option.bind_some]
    rw [if_pos h3]
  refine (sSeq_nx (e := E c (M4 p q r t) .un 6 a b d e f (.mu (.lst (zs.map D.int)))) ?_).trans ?_
  · have h6 : eB (b2 fAdd (bVar 0) (cst (.int 1))) (E c (M4 p q r t) .un 6 a b d e f .un) = some ⟨.int (c + 1), false⟩ := by simp [E]
    simp only [sSet_a, eCallN_a, aCons_a, h6, e1, aNil_a, Option.bind_some, Option.map_some, List.length_cons, List.length_nil]
    rw [if_pos trivial, hd]
    rfl
  · have h7 : ([D.str (Str.ofString "begin"), .int p, .int q] : List D).length + (zs.map D.int).length ≤ lim ∧ ([D.str (Str.ofString "begin"), .int p, .int q] : List D) ≠ [] := ⟨by simp [lim]; omega, by simp⟩
    have h8 : eTup (aCons (eB (cst (.str "begin"))) (aCons (eIx (bVar 1) (cst (.int 0))) (aCons (eIx (bVar 1) (cst (.int 1))) aNil))) (E c (M4 p q r t) .un 6 a b d e f (.mu (.lst (zs.map D.int)))) = some ⟨.tup [.str (Str.ofString "begin"), .int p, .int q], false⟩ := by
      simp [E, M4, ixD, atI, ixN, lim]
    have h9 : eTupL (bVar 9) (E c (M4 p q r t) .un 6 a b d e f (.mu (.lst (zs.map D.int)))) = some ⟨.tup (zs.map D.int), false⟩ := rfl
    rw [sRet_a, eCatT_a, h8, h9]
    simp only [Option.bind_some]
    rw [if_pos h7]
    rfl
theorem od4_n (hk : k ≠ 6) : OD4 fuel (E c (M4 p q r t) .un k a b d e f .un) = some (.nx (E c (M4 p q r t) .un k a b d e f .un)) := by
  unfold OD4
  refine (sIf_f ?_).trans rfl
  simp [E, hk]
theorem go_of {w : Str} {ns : List Int} (h1 : w.length ≤ 10) (h2 : 32 ∉ tl w) (h3 : PyData.strOk w = true) (h4 : w ≠ Str.ofString "begin") (h5 : valD NO (.inr w) = some (.int ns.length)) (h6 : ns ≠ []) (h7 : ns.length ≤ 60) (h8 : ∀ n ∈ ns, n.natAbs < 1000000000000) : GO w ns := ⟨h1, h2, h3, h6, h7, .inr ⟨h4, h5⟩, h8⟩
theorem od56 (hr : R4 p q r t) (h0 : 0 ≤ k) (h1 : k < 6) : ∃ (w : Str) (ns : List Int) (e' : En), sSeq OD5 OD6 fuel (E c (M4 p q r t) .un k a b d e f .un) = some (.rt ⟨.tup (.str w :: ns.map D.int), false⟩ e') ∧ GO w ns := by
  obtain ⟨r1, r2, r3, r4⟩ := hr
  rcases (by omega : k = 0 ∨ k = 1 ∨ k = 2 ∨ k = 3 ∨ k = 4 ∨ k = 5) with rfl | rfl | rfl | rfl | rfl | rfl
  · refine ⟨Str.ofString "push", [p], E c (M4 p q r t) (.pu (.str "push")) 0 a b d e f .un, ?_, go_of (by decide +kernel) (by decide +kernel) (by decide +kernel) (by decide +kernel) rfl (by simp) (by simp) (by simpa using r1)⟩
    unfold OD5 OD6
    simp [E, M4, ixD, atI, ixN, lim, eSlice, oNone, oInt, cutD, HT.sIx, fTupL]
  · refine ⟨Str.ofString "pull", [p], E c (M4 p q r t) (.pu (.str "pull")) 1 a b d e f .un, ?_, go_of (by decide +kernel) (by decide +kernel) (by decide +kernel) (by decide +kernel) rfl (by simp) (by simp) (by simpa using r1)⟩
    unfold OD5 OD6
    simp [E, M4, ixD, atI, ixN, lim, eSlice, oNone, oInt, cutD, HT.sIx, fTupL]
  · refine ⟨Str.ofString "burst", [p], E c (M4 p q r t) (.pu (.str "burst")) 2 a b d e f .un, ?_, go_of (by decide +kernel) (by decide +kernel) (by decide +kernel) (by decide +kernel) rfl (by simp) (by simp) (by simpa using r1)⟩
    unfold OD5 OD6
    simp [E, M4, ixD, atI, ixN, lim, eSlice, oNone, oInt, cutD, HT.sIx, fTupL]
  · refine ⟨Str.ofString "part", [p, q, r, t], E c (M4 p q r t) (.pu (.str "part")) 3 a b d e f .un, ?_, go_of (by decide +kernel) (by decide +kernel) (by decide +kernel) (by decide +kernel) rfl (by simp) (by simp) (by simp [r1, r2, r3, r4])⟩
    unfold OD5 OD6
    simp [E, M4, ixD, atI, ixN, lim, eSlice, oNone, oInt, cutD, HT.sIx, fTupL]
  · refine ⟨Str.ofString "blow", [p, q, r], E c (M4 p q r t) (.pu (.str "blow")) 4 a b d e f .un, ?_, go_of (by decide +kernel) (by decide +kernel) (by decide +kernel) (by decide +kernel) rfl (by simp) (by simp) (by simp [r1, r2, r3])⟩
    unfold OD5 OD6
    simp [E, M4, ixD, atI, ixN, lim, eSlice, oNone, oInt, cutD, HT.sIx, fTupL]
  · refine ⟨Str.ofString "wait", [p, q], E c (M4 p q r t) (.pu (.str "wait")) 5 a b d e f .un, ?_, go_of (by decide +kernel) (by decide +kernel) (by decide +kernel) (by decide +kernel) rfl (by simp) (by simp) (by simp [r1, r2])⟩
    unfold OD5 OD6
    simp [E, M4, ixD, atI, ixN, lim, eSlice, oNone, oInt, cutD, HT.sIx, fTupL]
end
theorem drawn_c (c : Int) : ∃ (w : Str) (ns : List Int), F_law_order_drawn [.int c] = some ⟨.tup (.str w :: ns.map D.int), false⟩ ∧ GO w ns := by
  obtain ⟨k, a, b, d, e, f, hd, k0, k1, ha, hb, hc, he, f0, f1⟩ := digits6 c
  have hr : R4 a b d e := ⟨by omega, by omega, by omega, by omega⟩
  obtain ⟨p, q, r, t, s2, hr2⟩ := od2 (c := c) (k := k) hr f0
  obtain ⟨p', q', r', t', s3, hr3⟩ := od3 (c := c) (k := k) (a := a) (b := b) (d := d) (e := e) (f := f) hr2
  unfold F_law_order_drawn
  rw [od_eq]
  by_cases hk : k = 6
  · subst hk
    obtain ⟨zs, e', s4, g⟩ := od4_6 (c := c) (b := b) (d := d) (e := e) (f := f) hr3 ha.1
    exact ⟨_, _, fnD_rt (e := e') ((sSeq_nx (od0 hd)).trans ((sSeq_nx od1).trans ((sSeq_nx s2).trans ((sSeq_nx s3).trans (by rw [sSeq_a, s4]; rfl))))), g⟩
  · obtain ⟨w, ns, e', s4, g⟩ := od56 (c := c) (k := k) (a := a) (b := b) (d := d) (e := e) (f := f) hr3 k0 (by omega)
    exact ⟨w, ns, fnD_rt ((sSeq_nx (od0 hd)).trans ((sSeq_nx od1).trans ((sSeq_nx s2).trans ((sSeq_nx s3).trans ((sSeq_nx (od4_n hk)).trans s4))))), g⟩
/-! the law -/
def IsO (d : D) : Prop := ∃ (w : Str) (ns : List Int), d = .tup (.str w :: ns.map D.int) ∧ GO w ns
theorem drawn_o (c : Int) : ∃ d, F_law_order_drawn [.int c] = some ⟨d, false⟩ ∧ IsO d := by
  obtain ⟨w, ns, h, g⟩ := drawn_c c
  exact ⟨_, h, w, ns, rfl, g⟩
def oD (c : Int) : D := Classical.choose (drawn_o c)
theorem oD_e (c : Int) : F_law_order_drawn [.int c] = some ⟨oD c, false⟩ := (Classical.choose_spec (drawn_o c)).1
theorem oD_o (c : Int) : IsO (oD c) := (Classical.choose_spec (drawn_o c)).2
def BB : SX := sSeq (sSet 4 (eCallN 1 F_law_due_text (aCons (eVar 3) aNil))) (sSeq (sSet 5 (eCallN 1 F_shown (aCons (eVar 3) aNil))) (sIf (bOr (bNot (b1 (fIs "str") (bVar 5))) (bOr (b2 fNe (bVar 5) (bVar 4)) (bNot (bE (eCallN 2 F_law_is_order (aCons (eCallB 1 F_read (gV 4 gNone)) (aCons (eVar 3) aNil))))))) (sRet (eB (cst (.bl false)))) sNext))
theorem sepsI {bl bd : Bool} : ∀ {ns : List Int}, seps bl bd (ns.map D.int) = true
  | [] => rfl
  | n :: ns => by simp [seps, sep, sepsI]
theorem body_c {S O : D} {m s4 s5 : Sl} {w : Str} {ns : List Int} (g : GO w ns) : BB fuel [.pu S, m, .pu O, .pu (.tup (.str w :: ns.map D.int)), s4, s5, .un] = some (.nx [.pu S, m, .pu O, .pu (.tup (.str w :: ns.map D.int)), .pu (.str (txt w ns)), .pu (.str (txt w ns)), .un]) := by
  unfold BB
  refine (sSeq_nx (e := [.pu S, m, .pu O, .pu (.tup (.str w :: ns.map D.int)), .pu (.str (txt w ns)), s5, .un]) ?_).trans ((sSeq_nx (e := [.pu S, m, .pu O, .pu (.tup (.str w :: ns.map D.int)), .pu (.str (txt w ns)), .pu (.str (txt w ns)), .un]) ?_).trans ((sIf_f ?_).trans rfl))
  · rw [sSet_a, eCallN_a]
    show Option.map _ (if 1 = 1 then F_law_due_text [.tup (.str w :: ns.map D.int)] else none) = _
    rw [if_pos rfl, due_c g.len g.nl g.ne g.rg]
    rfl
  · rw [sSet_a, eCallN_a]
    show Option.map _ (if 1 = 1 then F_shown [.tup (.str w :: ns.map D.int)] else none) = _
    rw [if_pos rfl, shown_c g.len g.nl g.rg]
    rfl
  · have e1 : eCallB 1 F_read (gV 4 gNone) [.pu S, m, .pu O, .pu (.tup (.str w :: ns.map D.int)), .pu (.str (txt w ns)), .pu (.str (txt w ns)), .un] = some ⟨.tup (.str w :: ns.map D.int), false⟩ := by
      rw [eCallB_a]
      show (if 1 = 1 then (F_read [.str (txt w ns)]).bind fun r => if sepR [(D.str (txt w ns), false)] r then some r else none else none) = _
      rw [if_pos rfl, read_c g.len g.bl g.nl g.ok g.rg]
      simp only [Option.bind_some]
      rw [if_pos]
      simp [sepR, sep, seps, sepsI]
    have e2 : eCallN 2 F_law_is_order (aCons (eCallB 1 F_read (gV 4 gNone)) (aCons (eVar 3) aNil)) [.pu S, m, .pu O, .pu (.tup (.str w :: ns.map D.int)), .pu (.str (txt w ns)), .pu (.str (txt w ns)), .un] = some ⟨.bl true, false⟩ := by
      rw [eCallN_a, aCons_a, e1]
      show (if 2 = 2 then F_law_is_order [.tup (.str w :: ns.map D.int), .tup (.str w :: ns.map D.int)] else none) = _
      rw [if_pos rfl, isord_c g.so g.nl]
    simp only [bOr_a, bNot_a, bE_a, e2, Option.map_some, Option.bind_some, b2_a, bVar_a, b1_a, List.getElem?_cons_zero, List.getElem?_cons_succ, fNe_s]
    simp
theorem law_c {ns : List Int} (hn : ns.length ≤ 63) : ∃ e, S_law FA.F_digits FA.F_cell F_law_order_drawn F_law_due_text F_shown F_law_is_order F_read fuel [.pu (.lst (ns.map D.int)), .un, .un, .un, .un, .un, .un] = some (.rt ⟨.bl true, false⟩ e) := by
  obtain ⟨x, y, zs, hd, x0, x1, y0, y1, zl, zr⟩ := digits45 (FA.cellL ns 6)
  let S : D := .lst (ns.map D.int)
  let M : D := .lst ((x :: y :: zs).map D.int)
  let L5 : List D := (rngD 5).map fun d => match d with | .int i => oD (FA.cellL ns i.toNat) | d => d
  have cut : cutD ((x :: y :: zs).map D.int) (some 2) (some (39 + x)) = (zs.take (37 + x).toNat).map D.int := by
    unfold cutD
    have h1 : ((x :: y :: zs).map D.int).length = 45 := by simp [zl]
    rw [h1, show HT.sIx 45 0 (some 2) = 2 from rfl, show HT.sIx 45 45 (some (39 + x)) = (39 + x).toNat from by
      show (if 39 + x < 0 then (39 + x + 45).toNat else min (39 + x).toNat 45) = _
      rw [if_neg (by omega)]
      omega]
    rw [show (39 + x).toNat - 2 = (37 + x).toNat from by omega]
    simp [List.map_take]
  let ns6 : List Int := y :: 7 :: zs.take (37 + x).toNat
  let O6 : D := .tup (.str (Str.ofString "begin") :: ns6.map D.int)
  have g6 : GO (Str.ofString "begin") ns6 := by
    refine go_begin (r := 0) (t := 0) (m := (37 + x).toNat) ⟨by omega, by decide, by decide, by decide⟩ (by rw [List.length_take, zl]; omega) (by omega) (by omega) fun z hz => zr z (List.mem_of_mem_take hz)
  have a0 : sSet 1 (eCallN 2 FA.F_digits (aCons (eCallN 2 FA.F_cell (aCons (eVar 0) (aCons (eB (cst (.int 6))) aNil))) (aCons (eCat (bE (eLst (aCons (eB (cst (.int 7))) (aCons (eB (cst (.int 1000))) aNil)))) (bE (eRep (eLst (aCons (eB (b2 fPow (cst (.int 10)) (cst (.int 12)))) aNil)) (cst (.int 43))))) aNil))) fuel [.pu S, .un, .un, .un, .un, .un, .un] = some (.nx [.pu S, .mu M, .un, .un, .un, .un, .un]) := by
    have c1 : eCallN 2 FA.F_cell (aCons (eVar 0) (aCons (eB (cst (.int 6))) aNil)) [.pu S, .un, .un, .un, .un, .un, .un] = some ⟨.int (FA.cellL ns 6), false⟩ := FS.cell_c ns 6 (by decide)
    have c2 : eLst (aCons (eB (b2 fPow (cst (.int 10)) (cst (.int 12)))) aNil) [.pu S, .un, .un, .un, .un, .un, .un] = some ⟨.lst [.int 1000000000000], true⟩ := by
      simp only [eLst_a, aCons_a, eB_a, pow12, aNil_a]
      simp [lim]
    have c3 : eCat (bE (eLst (aCons (eB (cst (.int 7))) (aCons (eB (cst (.int 1000))) aNil)))) (bE (eRep (eLst (aCons (eB (b2 fPow (cst (.int 10)) (cst (.int 12)))) aNil)) (cst (.int 43)))) [.pu S, .un, .un, .un, .un, .un, .un] = some ⟨.lst ((7 :: 1000 :: List.replicate 43 (1000000000000 : Int)).map D.int), true⟩ := by
      unfold eCat
      simp only [bE_a, eRep_a, c2, cst_a, Option.bind_some, eLst_a, aCons_a, eB_a, aNil_a]
      simp [lim]
    rw [sSet_a, eCallN_a, aCons_a, c1, aCons_a, c3]
    show Option.map _ (if 2 = 2 then FA.F_digits [.int (FA.cellL ns 6), .lst ((7 :: 1000 :: List.replicate 43 (1000000000000 : Int)).map D.int)] else none) = _
    rw [if_pos rfl, hd]
    rfl
  have a1 : sSet 2 (eLc (srcR (abCons (cst (.int 5)) aNil)) (gdName 6) (cst (.bl true)) (eCallN 1 F_law_order_drawn (aCons (eCallN 2 FA.F_cell (aCons (eVar 0) (aCons (eVar 6) aNil))) aNil)) [6]) fuel [.pu S, .mu M, .un, .un, .un, .un, .un] = some (.nx [.pu S, .mu M, .mu (.lst L5), .un, .un, .un, .un]) := by
    have : eLc (srcR (abCons (cst (.int 5)) aNil)) (gdName 6) (cst (.bl true)) (eCallN 1 F_law_order_drawn (aCons (eCallN 2 FA.F_cell (aCons (eVar 0) (aCons (eVar 6) aNil))) aNil)) [6] [.pu S, .mu M, .un, .un, .un, .un, .un] = some ⟨.lst L5, true⟩ := by
      refine eLc_all (w := fun d => match d with | .int i => oD (FA.cellL ns i.toNat) | d => d) (rngI_of (n := 5) (by decide)) (by simp [rngD, lim]) fun d hd => ?_
      obtain ⟨i, _, rfl⟩ := List.mem_map.mp hd
      refine ⟨_, rfl, false, ?_⟩
      have c1 := FS.cell_c ns (i : Int) (by omega)
      have e1 : eCallN 2 FA.F_cell (aCons (eVar 0) (aCons (eVar 6) aNil)) ((wipeE [.pu S, .mu M, .un, .un, .un, .un, .un] [6]).set 6 (.pu (.int i))) = some ⟨.int (FA.cellL ns (i : Int).toNat), false⟩ := c1
      rw [eCallN_a, aCons_a, e1]
      exact oD_e _
    rw [sSet_a, this]
    rfl
  have a2 : sAppend 2 (eCatT (eTup (aCons (eB (cst (.str "begin"))) (aCons (eIx (bVar 1) (cst (.int 1))) (aCons (eB (cst (.int 7))) aNil)))) (eTupL (bE (eSlice (bVar 1) (oInt (cst (.int 2))) (oInt (b2 fAdd (cst (.int 39)) (bE (eIx (bVar 1) (cst (.int 0)))))))))) fuel [.pu S, .mu M, .mu (.lst L5), .un, .un, .un, .un] = some (.nx [.pu S, .mu M, .mu (.lst (L5 ++ [O6])), .un, .un, .un, .un]) := by
    have e1 : eTup (aCons (eB (cst (.str "begin"))) (aCons (eIx (bVar 1) (cst (.int 1))) (aCons (eB (cst (.int 7))) aNil))) [.pu S, .mu M, .mu (.lst L5), .un, .un, .un, .un] = some ⟨.tup [.str (Str.ofString "begin"), .int y, .int 7], false⟩ := by
      simp [M, ixD, atI, ixN, lim, zl]
    have e2 : eSlice (bVar 1) (oInt (cst (.int 2))) (oInt (b2 fAdd (cst (.int 39)) (bE (eIx (bVar 1) (cst (.int 0)))))) [.pu S, .mu M, .mu (.lst L5), .un, .un, .un, .un] = some ⟨.lst ((zs.take (37 + x).toNat).map D.int), true⟩ := by
      have f1 : b2 fAdd (cst (.int 39)) (bE (eIx (bVar 1) (cst (.int 0)))) [.pu S, .mu M, .mu (.lst L5), .un, .un, .un, .un] = some (.int (39 + x)) := by
        simp [M, ixD, atI, ixN, zl]
      unfold eSlice oInt
      rw [f1]
      simp only [cst_a, Option.bind_some, bVar_a, List.getElem?_cons_zero, List.getElem?_cons_succ]
      show some (⟨.lst (cutD ((x :: y :: zs).map D.int) (some 2) (some (39 + x))), true⟩ : RV) = _
      rw [cut]
    have e3 : eTupL (bE (eSlice (bVar 1) (oInt (cst (.int 2))) (oInt (b2 fAdd (cst (.int 39)) (bE (eIx (bVar 1) (cst (.int 0)))))))) [.pu S, .mu M, .mu (.lst L5), .un, .un, .un, .un] = some ⟨.tup ((zs.take (37 + x).toNat).map D.int), false⟩ := by
      rw [eTupL_a, bE_a, e2]
      rfl
    have h7 : ([D.str (Str.ofString "begin"), .int y, .int 7] : List D).length + ((zs.take (37 + x).toNat).map D.int).length ≤ lim ∧ ([D.str (Str.ofString "begin"), .int y, .int 7] : List D) ≠ [] := ⟨by simp [lim, zl]; omega, by simp⟩
    have e4 : eCatT (eTup (aCons (eB (cst (.str "begin"))) (aCons (eIx (bVar 1) (cst (.int 1))) (aCons (eB (cst (.int 7))) aNil)))) (eTupL (bE (eSlice (bVar 1) (oInt (cst (.int 2))) (oInt (b2 fAdd (cst (.int 39)) (bE (eIx (bVar 1) (cst (.int 0))))))))) [.pu S, .mu M, .mu (.lst L5), .un, .un, .un, .un] = some ⟨O6, false⟩ := by
      rw [eCatT_a, e1, e3]
      simp only [Option.bind_some]
      rw [if_pos h7]
      rfl
    have l5 : L5.length < lim := by simp [L5, rngD, lim]
    rw [sAppend_a, show ownD 2 [Sl.pu S, .mu M, .mu (.lst L5), .un, .un, .un, .un] = some (.lst L5) from rfl]
    simp only [Option.bind_some]
    rw [e4]
    simp only [Option.bind_some]
    rw [if_pos l5]
    rfl
  have hO : ∀ d ∈ L5 ++ [O6], IsO d := by
    intro d hd
    rcases List.mem_append.mp hd with hd | hd
    · obtain ⟨z, hz, rfl⟩ := List.mem_map.mp hd
      obtain ⟨i, _, rfl⟩ := List.mem_map.mp hz
      exact oD_o _
    · rw [List.mem_singleton.mp hd]
      exact ⟨_, ns6, rfl, g6⟩
  obtain ⟨e3, a3, s3, s4, s5, he3⟩ := loopF_inv (gd := gdName 3) (b := BB) (n := fuel) (P := fun _ e => ∃ s3 s4 s5, e = [.pu S, .mu M, .pu (.lst (L5 ++ [O6])), s3, s4, s5, .un]) (ds := L5 ++ [O6]) (env := [.pu S, .mu M, .pu (.lst (L5 ++ [O6])), .un, .un, .un, .un]) ⟨_, _, _, rfl⟩ (fun i d e hi hp => by
    obtain ⟨s3, s4, s5, rfl⟩ := hp
    obtain ⟨w, ms, rfl, g⟩ := hO d (List.mem_of_getElem? hi)
    exact ⟨_, _, rfl, .inl (body_c g), _, _, _, rfl⟩)
  refine ⟨e3, ?_⟩
  unfold S_law T_law_0 T_law_1 T_law_2 T_law_3 T_law_4
  refine (sSeq_nx a0).trans ((sSeq_nx a1).trans ((sSeq_nx a2).trans ((sSeq_nx (e := e3) ?_).trans rfl)))
  rw [sFrz_a, show frz 2 [Sl.pu S, .mu M, .mu (.lst (L5 ++ [O6])), .un, .un, .un, .un] = [Sl.pu S, .mu M, .pu (.lst (L5 ++ [O6])), .un, .un, .un, .un] from rfl]
  exact sForV_of (c := .lst (L5 ++ [O6])) rfl rfl a3
def F_law : List D → Option RV
  | [.lst ds] => (FA.intsD ds).bind fun ns => if ns.length ≤ 63 then some ⟨.bl true, false⟩ else none
  | _ => none
theorem law_true (ns : List Int) (hn : ns.length ≤ 63) : ∃ b, F_law [.lst (ns.map D.int)] = some ⟨.bl true, b⟩ := ⟨false, by simp [F_law, FA.intsD_map, hn]⟩
theorem hF_law : ∀ ds r, F_law ds = some r → ∃ n, fnD 7 (S_law FA.F_digits FA.F_cell F_law_order_drawn F_law_due_text F_shown F_law_is_order F_read) n ds = some r := by
  intro ds r h
  unfold F_law at h
  split at h
  · rename_i ds
    cases q : FA.intsD ds with
    | none => rw [q] at h; cases h
    | some ns =>
      rw [q] at h
      simp only [Option.bind_some] at h
      split at h
      · rename_i hn
        cases h
        have e := FA.intsD_eq q
        subst e
        obtain ⟨e, k⟩ := law_c hn
        exact ⟨fuel, fnD_rt k⟩
      · cases h
  · cases h
end Lk57
end

set_option linter.all false
set_option Elab.async false
set_option maxRecDepth 100000
set_option maxHeartbeats 4000000
namespace Lk57
open PySem L2 FW
/-! what the top has written -/
theorem all_mk {l : PySem.W.OpenLaw} {w : World} {K : PySem.W.Frag} {h : Heap} {mg : Str → Option Value} {fa : Addr} {f0 : Addr} {od0 an0 : Option Addr} {sl0 : Array (Option Value)} {oc0 kV0 dc0 pm0 cd0 ct0 : Value} {f1 : Addr} {od1 an1 : Option Addr} {sl1 : Array (Option Value)} {oc1 kV1 dc1 pm1 cd1 ct1 : Value} {f2 : Addr} {od2 an2 : Option Addr} {sl2 : Array (Option Value)} {oc2 kV2 dc2 pm2 cd2 ct2 : Value} {f3 : Addr} {od3 an3 : Option Addr} {sl3 : Array (Option Value)} {oc3 kV3 dc3 pm3 cd3 ct3 : Value} {f4 : Addr} {od4 an4 : Option Addr} {sl4 : Array (Option Value)} {oc4 kV4 dc4 pm4 cd4 ct4 : Value} {f5 : Addr} {od5 an5 : Option Addr} {sl5 : Array (Option Value)} {oc5 kV5 dc5 pm5 cd5 ct5 : Value} {f6 : Addr} {od6 an6 : Option Addr} {sl6 : Array (Option Value)} {oc6 kV6 dc6 pm6 cd6 ct6 : Value} {f7 : Addr} {od7 an7 : Option Addr} {sl7 : Array (Option Value)} {oc7 kV7 dc7 pm7 cd7 ct7 : Value} {f8 : Addr} {od8 an8 : Option Addr} {sl8 : Array (Option Value)} {oc8 kV8 dc8 pm8 cd8 ct8 : Value} {f9 : Addr} {od9 an9 : Option Addr} {sl9 : Array (Option Value)} {oc9 kV9 dc9 pm9 cd9 ct9 : Value} {f10 : Addr} {od10 an10 : Option Addr} {sl10 : Array (Option Value)} {oc10 kV10 dc10 pm10 cd10 ct10 : Value} {f11 : Addr} {od11 an11 : Option Addr} {sl11 : Array (Option Value)} {oc11 kV11 dc11 pm11 cd11 ct11 : Value} {tk_MOST_FIGURES : Tok} {tk_FIGURES : Tok} {tk_LEAST_OF_BEGIN : Tok} {ta_NUMBERS_OF : Addr} {es_NUMBERS_OF : Array DictEntry} {tn_NUMBERS_OF : Nat} (X : K.In h) (G : h.Ns mainGlobals mg) (hfa : mg "law" = some (.ref fa))
    (a0 : PySem.W.nsIn K mainGlobals "shown" = some (some (.ref f0)))
    (l0 : K.lookup f0 = some ⟨oc0, od0, .func (PySem.W.fnOf "shown" "shown" (defArgs st_shown) (defBody st_shown) (defScope st_shown) .none kV0 dc0 pm0 an0 cd0 ct0), sl0⟩)
    (c0 : PySem.W.codeIn K cd0 "shown" = true)
    (k0 : PySem.W.keepIn K (.ref f0) = true)
    (a1 : PySem.W.nsIn K mainGlobals "is_number" = some (some (.ref f1)))
    (l1 : K.lookup f1 = some ⟨oc1, od1, .func (PySem.W.fnOf "is_number" "is_number" (defArgs st_is_number) (defBody st_is_number) (defScope st_is_number) .none kV1 dc1 pm1 an1 cd1 ct1), sl1⟩)
    (c1 : PySem.W.codeIn K cd1 "is_number" = true)
    (k1 : PySem.W.keepIn K (.ref f1) = true)
    (a2 : PySem.W.nsIn K mainGlobals "takes_numbers" = some (some (.ref f2)))
    (l2 : K.lookup f2 = some ⟨oc2, od2, .func (PySem.W.fnOf "takes_numbers" "takes_numbers" (defArgs st_takes_numbers) (defBody st_takes_numbers) (defScope st_takes_numbers) .none kV2 dc2 pm2 an2 cd2 ct2), sl2⟩)
    (c2 : PySem.W.codeIn K cd2 "takes_numbers" = true)
    (k2 : PySem.W.keepIn K (.ref f2) = true)
    (a3 : PySem.W.nsIn K mainGlobals "read" = some (some (.ref f3)))
    (l3 : K.lookup f3 = some ⟨oc3, od3, .func (PySem.W.fnOf "read" "read" (defArgs st_read) (defBody st_read) (defScope st_read) .none kV3 dc3 pm3 an3 cd3 ct3), sl3⟩)
    (c3 : PySem.W.codeIn K cd3 "read" = true)
    (k3 : PySem.W.keepIn K (.ref f3) = true)
    (a4 : PySem.W.nsIn K mainGlobals "_law_seed" = some (some (.ref f4)))
    (l4 : K.lookup f4 = some ⟨oc4, od4, .func (PySem.W.fnOf "_law_seed" "_law_seed" (defArgs st_law_seed) (defBody st_law_seed) (defScope st_law_seed) .none kV4 dc4 pm4 an4 cd4 ct4), sl4⟩)
    (c4 : PySem.W.codeIn K cd4 "_law_seed" = true)
    (k4 : PySem.W.keepIn K (.ref f4) = true)
    (a5 : PySem.W.nsIn K mainGlobals "_law_digits" = some (some (.ref f5)))
    (l5 : K.lookup f5 = some ⟨oc5, od5, .func (PySem.W.fnOf "_law_digits" "_law_digits" (defArgs st_law_digits) (defBody st_law_digits) (defScope st_law_digits) .none kV5 dc5 pm5 an5 cd5 ct5), sl5⟩)
    (c5 : PySem.W.codeIn K cd5 "_law_digits" = true)
    (k5 : PySem.W.keepIn K (.ref f5) = true)
    (a6 : PySem.W.nsIn K mainGlobals "_law_cell" = some (some (.ref f6)))
    (l6 : K.lookup f6 = some ⟨oc6, od6, .func (PySem.W.fnOf "_law_cell" "_law_cell" (defArgs st_law_cell) (defBody st_law_cell) (defScope st_law_cell) .none kV6 dc6 pm6 an6 cd6 ct6), sl6⟩)
    (c6 : PySem.W.codeIn K cd6 "_law_cell" = true)
    (k6 : PySem.W.keepIn K (.ref f6) = true)
    (a7 : PySem.W.nsIn K mainGlobals "_law_order_drawn" = some (some (.ref f7)))
    (l7 : K.lookup f7 = some ⟨oc7, od7, .func (PySem.W.fnOf "_law_order_drawn" "_law_order_drawn" (defArgs st_law_order_drawn) (defBody st_law_order_drawn) (defScope st_law_order_drawn) .none kV7 dc7 pm7 an7 cd7 ct7), sl7⟩)
    (c7 : PySem.W.codeIn K cd7 "_law_order_drawn" = true)
    (k7 : PySem.W.keepIn K (.ref f7) = true)
    (a8 : PySem.W.nsIn K mainGlobals "_law_due_text" = some (some (.ref f8)))
    (l8 : K.lookup f8 = some ⟨oc8, od8, .func (PySem.W.fnOf "_law_due_text" "_law_due_text" (defArgs st_law_due_text) (defBody st_law_due_text) (defScope st_law_due_text) .none kV8 dc8 pm8 an8 cd8 ct8), sl8⟩)
    (c8 : PySem.W.codeIn K cd8 "_law_due_text" = true)
    (k8 : PySem.W.keepIn K (.ref f8) = true)
    (a9 : PySem.W.nsIn K mainGlobals "_law_whole" = some (some (.ref f9)))
    (l9 : K.lookup f9 = some ⟨oc9, od9, .func (PySem.W.fnOf "_law_whole" "_law_whole" (defArgs st_law_whole) (defBody st_law_whole) (defScope st_law_whole) .none kV9 dc9 pm9 an9 cd9 ct9), sl9⟩)
    (c9 : PySem.W.codeIn K cd9 "_law_whole" = true)
    (k9 : PySem.W.keepIn K (.ref f9) = true)
    (a10 : PySem.W.nsIn K mainGlobals "_law_is_order" = some (some (.ref f10)))
    (l10 : K.lookup f10 = some ⟨oc10, od10, .func (PySem.W.fnOf "_law_is_order" "_law_is_order" (defArgs st_law_is_order) (defBody st_law_is_order) (defScope st_law_is_order) .none kV10 dc10 pm10 an10 cd10 ct10), sl10⟩)
    (c10 : PySem.W.codeIn K cd10 "_law_is_order" = true)
    (k10 : PySem.W.keepIn K (.ref f10) = true)
    (a11 : PySem.W.nsIn K mainGlobals "law" = some (some (.ref f11)))
    (l11 : K.lookup f11 = some ⟨oc11, od11, .func (PySem.W.fnOf "law" "law" (defArgs st_law) (defBody st_law) (defScope st_law) .none kV11 dc11 pm11 an11 cd11 ct11), sl11⟩)
    (c11 : PySem.W.codeIn K cd11 "law" = true)
    (k11 : PySem.W.keepIn K (.ref f11) = true)
    (z_str : PySem.W.nsIn K mainGlobals "str" = some none)
    (z_len : PySem.W.nsIn K mainGlobals "len" = some none)
    (z_all : PySem.W.nsIn K mainGlobals "all" = some none)
    (z_int : PySem.W.nsIn K mainGlobals "int" = some none)
    (z_tuple : PySem.W.nsIn K mainGlobals "tuple" = some none)
    (z_enumerate : PySem.W.nsIn K mainGlobals "enumerate" = some none)
    (z_isinstance : PySem.W.nsIn K mainGlobals "isinstance" = some none)
    (z_bool : PySem.W.nsIn K mainGlobals "bool" = some none)
    (z_range : PySem.W.nsIn K mainGlobals "range" = some none)
    (y_MOST_FIGURES : PySem.W.nsIn K mainGlobals "MOST_FIGURES" = some (some (.int 12 tk_MOST_FIGURES)))
    (y_FIGURES : PySem.W.nsIn K mainGlobals "FIGURES" = some (some (.str "0123456789" tk_FIGURES)))
    (y_LEAST_OF_BEGIN : PySem.W.nsIn K mainGlobals "LEAST_OF_BEGIN" = some (some (.int 3 tk_LEAST_OF_BEGIN)))
    (y_NUMBERS_OF : PySem.W.nsIn K mainGlobals "NUMBERS_OF" = some (some (.ref ta_NUMBERS_OF)))
    (x_NUMBERS_OF : K.lookup ta_NUMBERS_OF = some ⟨.type "dict", none, .dict es_NUMBERS_OF tn_NUMBERS_OF, #[]⟩)
    (w_NUMBERS_OF : (ta_NUMBERS_OF == sysModules) = false)
    (v_NUMBERS_OF : relE l.prog w es_NUMBERS_OF.toList [(.inr "push", .int 1), (.inr "pull", .int 1), (.inr "burst", .int 1), (.inr "part", .int 4), (.inr "blow", .int 3), (.inr "wait", .int 2)])
    : ∃ fd : FuncData, (∀ (s : Shared) (v : Value), BindsTo s fd ⟨[v], []⟩ [("_law_script", v)]) ∧ ∀ base : Heap, K.In base → base.Ns mainGlobals mg → FnOk l.prog w K mg base CX0 4 fa fd ["_law_script"] (SpF K 1 F_law) := by
  have e := hfa.symm.trans (PySem.W.mg_of X G a11)
  cases e
  refine ⟨PySem.W.fnOf "law" "law" (defArgs st_law) (defBody st_law) (defScope st_law) .none kV11 dc11 pm11 an11 cd11 ct11, fun s v => .of_eq rfl, fun base _ _ => ?_⟩
  have b_str := PySem.W.mg_none_of X G z_str
  have b_len := PySem.W.mg_none_of X G z_len
  have b_all := PySem.W.mg_none_of X G z_all
  have b_int := PySem.W.mg_none_of X G z_int
  have b_tuple := PySem.W.mg_none_of X G z_tuple
  have b_enumerate := PySem.W.mg_none_of X G z_enumerate
  have b_isinstance := PySem.W.mg_none_of X G z_isinstance
  have b_bool := PySem.W.mg_none_of X G z_bool
  have b_range := PySem.W.mg_none_of X G z_range
  have g_MOST_FIGURES := gk_int X G y_MOST_FIGURES
  have g_FIGURES := gk_str X G y_FIGURES
  have g_LEAST_OF_BEGIN := gk_int X G y_LEAST_OF_BEGIN
  have g_NUMBERS_OF : KD l.prog w K mg "NUMBERS_OF" [(.inr "push", .int 1), (.inr "pull", .int 1), (.inr "burst", .int 1), (.inr "part", .int 4), (.inr "blow", .int 3), (.inr "wait", .int 2)] := kd_mk X G y_NUMBERS_OF x_NUMBERS_OF w_NUMBERS_OF v_NUMBERS_OF (by decide)
  have C_shown : Cal l.prog w K mg base 1 "shown" 1 F_shown := ok_shown (fun_mk (st := st_shown) l0 c0 k0) (PySem.W.mg_of X G a0) ((fun_mk (st := st_shown) l0 c0 k0).binds (ps := ["order"]) fun _ _ _ _ _ _ us hl => match us, hl with | [_], _ => rfl) b_str hF_shown
  have C_is_number : Cal l.prog w K mg base 1 "is_number" 1 F_is_number := ok_is_number (fun_mk (st := st_is_number) l1 c1 k1) (PySem.W.mg_of X G a1) ((fun_mk (st := st_is_number) l1 c1 k1).binds (ps := ["text"]) fun _ _ _ _ _ _ us hl => match us, hl with | [_], _ => rfl) b_len b_all g_MOST_FIGURES g_FIGURES hF_is_number
  have C_takes_numbers : Cal l.prog w K mg base 1 "takes_numbers" 2 F_takes_numbers := ok_takes_numbers (fun_mk (st := st_takes_numbers) l2 c2 k2) (PySem.W.mg_of X G a2) ((fun_mk (st := st_takes_numbers) l2 c2 k2).binds (ps := ["word", "many"]) fun _ _ _ _ _ _ us hl => match us, hl with | [_, _], _ => rfl) g_LEAST_OF_BEGIN g_NUMBERS_OF hF_takes_numbers
  have C_read : Cal l.prog w K mg base 2 "read" 1 F_read := ok_read (fun_mk (st := st_read) l3 c3 k3) (PySem.W.mg_of X G a3) ((fun_mk (st := st_read) l3 c3 k3).binds (ps := ["text"]) fun _ _ _ _ _ _ us hl => match us, hl with | [_], _ => rfl) C_takes_numbers C_is_number b_len b_all b_int b_tuple hF_read
  have C_law_seed : Cal l.prog w K mg base 1 "_law_seed" 1 FA.F_seed := ok_law_seed (fun_mk (st := st_law_seed) l4 c4 k4) (PySem.W.mg_of X G a4) ((fun_mk (st := st_law_seed) l4 c4 k4).binds (ps := ["_law_cell_here"]) fun _ _ _ _ _ _ us hl => match us, hl with | [_], _ => rfl)  FA.hF_seed
  have C_law_digits : Cal l.prog w K mg base 2 "_law_digits" 2 FA.F_digits := ok_law_digits (fun_mk (st := st_law_digits) l5 c5 k5) (PySem.W.mg_of X G a5) ((fun_mk (st := st_law_digits) l5 c5 k5).binds (ps := ["_law_cell_here", "_law_sizes"]) fun _ _ _ _ _ _ us hl => match us, hl with | [_, _], _ => rfl) C_law_seed b_enumerate FA.hF_digits
  have C_law_cell : Cal l.prog w K mg base 1 "_law_cell" 2 FA.F_cell := ok_law_cell (fun_mk (st := st_law_cell) l6 c6 k6) (PySem.W.mg_of X G a6) ((fun_mk (st := st_law_cell) l6 c6 k6).binds (ps := ["_law_script", "_law_place"]) fun _ _ _ _ _ _ us hl => match us, hl with | [_, _], _ => rfl) b_len FA.hF_cell
  have C_law_order_drawn : Cal l.prog w K mg base 3 "_law_order_drawn" 1 F_law_order_drawn := ok_law_order_drawn (fun_mk (st := st_law_order_drawn) l7 c7 k7) (PySem.W.mg_of X G a7) ((fun_mk (st := st_law_order_drawn) l7 c7 k7).binds (ps := ["_law_cell_here"]) fun _ _ _ _ _ _ us hl => match us, hl with | [_], _ => rfl) C_law_digits b_tuple hF_law_order_drawn
  have C_law_due_text : Cal l.prog w K mg base 1 "_law_due_text" 1 F_law_due_text := ok_law_due_text (fun_mk (st := st_law_due_text) l8 c8 k8) (PySem.W.mg_of X G a8) ((fun_mk (st := st_law_due_text) l8 c8 k8).binds (ps := ["_law_order"]) fun _ _ _ _ _ _ us hl => match us, hl with | [_], _ => rfl) b_str hF_law_due_text
  have C_law_whole : Cal l.prog w K mg base 1 "_law_whole" 1 FW.F_wholeN := ok_law_whole (fun_mk (st := st_law_whole) l9 c9 k9) (PySem.W.mg_of X G a9) ((fun_mk (st := st_law_whole) l9 c9 k9).binds (ps := ["_law_thing"]) fun _ _ _ _ _ _ us hl => match us, hl with | [_], _ => rfl) b_isinstance b_int b_bool hF_law_whole
  have C_law_is_order : Cal l.prog w K mg base 2 "_law_is_order" 2 F_law_is_order := ok_law_is_order (fun_mk (st := st_law_is_order) l10 c10 k10) (PySem.W.mg_of X G a10) ((fun_mk (st := st_law_is_order) l10 c10 k10).binds (ps := ["_law_found", "_law_due"]) fun _ _ _ _ _ _ us hl => match us, hl with | [_, _], _ => rfl) C_law_whole b_isinstance b_tuple b_len b_str b_all hF_law_is_order
  exact ok_law (fun_mk (st := st_law) l11 c11 k11) C_law_digits C_law_cell C_law_order_drawn C_law_due_text C_shown C_law_is_order C_read b_range b_tuple b_isinstance b_str hF_law
end Lk57
open PySem PySem.W PyProof.Rows
set_option maxRecDepth 100000 in
set_option maxHeartbeats 0 in
theorem PySem.Challenge.cw_frothwane_k57_orders_written_and_read_holds : PySem.Challenge.rw_frothwane_k57_orders_written_and_read.Holds := by
  w_on; o_law; k_head; (case hw => w_witness2)
  k_fill
  refine FW.walkF (l := PySem.Challenge.rw_frothwane_k57_orders_written_and_read) (x := "_law_script") (k := 4) (F := Lk57.F_law) rfl rfl ⟨rfl, by decide, by decide⟩ (fun w h Y => PySem.W.kIn_of Y) ?F Lk57.law_true
  case F =>
    intro w mg fa h KX G hmg
    refine' Lk57.all_mk KX G hmg ?a0 ?l0 ?c0 ?k0 ?a1 ?l1 ?c1 ?k1 ?a2 ?l2 ?c2 ?k2 ?a3 ?l3 ?c3 ?k3 ?a4 ?l4 ?c4 ?k4 ?a5 ?l5 ?c5 ?k5 ?a6 ?l6 ?c6 ?k6 ?a7 ?l7 ?c7 ?k7 ?a8 ?l8 ?c8 ?k8 ?a9 ?l9 ?c9 ?k9 ?a10 ?l10 ?c10 ?k10 ?a11 ?l11 ?c11 ?k11 ?z_str ?z_len ?z_all ?z_int ?z_tuple ?z_enumerate ?z_isinstance ?z_bool ?z_range ?y_MOST_FIGURES ?y_FIGURES ?y_LEAST_OF_BEGIN ?y_NUMBERS_OF ?x_NUMBERS_OF ?w_NUMBERS_OF ?v_NUMBERS_OF
    (case a0 => k_is); (case l0 => k_is); (case c0 => k_is); (case k0 => k_is); (case a1 => k_is); (case l1 => k_is)
    (case c1 => k_is); (case k1 => k_is); (case a2 => k_is); (case l2 => k_is); (case c2 => k_is); (case k2 => k_is)
    (case a3 => k_is); (case l3 => k_is); (case c3 => k_is); (case k3 => k_is); (case a4 => k_is); (case l4 => k_is)
    (case c4 => k_is); (case k4 => k_is); (case a5 => k_is); (case l5 => k_is); (case c5 => k_is); (case k5 => k_is)
    (case a6 => k_is); (case l6 => k_is); (case c6 => k_is); (case k6 => k_is); (case a7 => k_is); (case l7 => k_is)
    (case c7 => k_is); (case k7 => k_is); (case a8 => k_is); (case l8 => k_is); (case c8 => k_is); (case k8 => k_is)
    (case a9 => k_is); (case l9 => k_is); (case c9 => k_is); (case k9 => k_is); (case a10 => k_is); (case l10 => k_is)
    (case c10 => k_is); (case k10 => k_is); (case a11 => k_is); (case l11 => k_is); (case c11 => k_is); (case k11 => k_is)
    (case z_str => k_is); (case z_len => k_is); (case z_all => k_is); (case z_int => k_is); (case z_tuple => k_is); (case z_enumerate => k_is)
    (case z_isinstance => k_is); (case z_bool => k_is); (case z_range => k_is); (case y_MOST_FIGURES => k_is); (case y_FIGURES => k_is); (case y_LEAST_OF_BEGIN => k_is)
    (case y_NUMBERS_OF => k_is); (case x_NUMBERS_OF => k_is); (case w_NUMBERS_OF => rfl); (case v_NUMBERS_OF => exact ⟨⟨rfl, rfl, rfl, ⟨_, rfl⟩⟩, ⟨⟨rfl, rfl, rfl, ⟨_, rfl⟩⟩, ⟨⟨rfl, rfl, rfl, ⟨_, rfl⟩⟩, ⟨⟨rfl, rfl, rfl, ⟨_, rfl⟩⟩, ⟨⟨rfl, rfl, rfl, ⟨_, rfl⟩⟩, ⟨⟨rfl, rfl, rfl, ⟨_, rfl⟩⟩, trivial⟩⟩⟩⟩⟩⟩)

