import PyProof.Rows.All
import Wide.All
import OpenK.AllK
import Wide.FinOn
import PyProof.EqAt
import PyProof.EqKinds
import PyProof.TupleCall
import KE.BitLaws
import Open.SpecLaws
import KE.OsHead
import KE.OsGo
import KE.LcSums
import PyProof.SetKind
import PyProof.DictStraight
import PyProof.Rows.SetFrom
import PyProof.DictWalks
import PyProof.CollectWalk
import PyProof.FactsAll.set_1
import PyProof.FactsAll.set_2
import PyProof.RulesTry
import PyProof.Rows.SortShell
import PyProof.Walk
import PyProof.Rows.SortWalk
import PySem.Challenge.RW_lawwords_s01_answers
-- CHANGE: your row's module here, as the last of these rows
set_option Elab.async false
set_option linter.all false
set_option maxRecDepth 100000
/-! THE HAND LAYER, for ints, bools, texts, own classes, lists, tuples, dicts, comprehensions, walks over dicts, enumerate, zip, reversed, texts, calls, loops. Paste it whole ahead of your own text; what your proof does not reach may be deleted. -/
namespace L2
open PySem PySem.Spec PyProof.Rows

/-- a key: an int or a str -/
abbrev Key := Sum Int Str
def keyIs : Key → Value → Bool
  | .inl k, v => Value.isInt k v
  | .inr x, v => Value.isStrOf x v
def keyH (w : World) : Key → Int
  | .inl k => hashInt k
  | .inr x => hashStr w x
theorem keyIs_shape : ∀ {k : Key} {v : Value}, keyIs k v = true → (∃ i t, k = Sum.inl i ∧ v = Value.int i t) ∨ (∃ x t, k = Sum.inr x ∧ v = Value.str x t)
  | .inl i, v, h => by
    obtain ⟨t, e⟩ := Value.isInt_shape (k := i) (v := v) h
    exact .inl ⟨i, t, rfl, e⟩
  | .inr x, v, h => by
    obtain ⟨t, e⟩ := Value.isStrOf_shape (x := x) (v := v) h
    exact .inr ⟨x, t, rfl, e⟩
theorem keyIs_int (i : Int) (t : Tok) : keyIs (.inl i) (.int i t) = true := by simp [keyIs, Value.isInt]
theorem keyIs_str (x : Str) (t : Tok) : keyIs (.inr x) (.str x t) = true := by simp [keyIs, Value.isStrOf]
theorem key_ll (a b : Int) : decide ((Sum.inl a : Key) = Sum.inl b) = (a == b) := by
  by_cases e : a = b
  · subst e; simp
  · have h : ¬ (Sum.inl a : Key) = Sum.inl b := fun q => e (Sum.inl.inj q)
    rw [decide_eq_false h]
    exact (beq_eq_false_iff_ne.mpr e).symm
theorem key_rr (a b : Str) : decide ((Sum.inr a : Key) = Sum.inr b) = decide (a = b) := by
  by_cases e : a = b
  · subst e; simp
  · have h : ¬ (Sum.inr a : Key) = Sum.inr b := fun q => e (Sum.inr.inj q)
    rw [decide_eq_false h, decide_eq_false e]
theorem key_lr (a : Int) (b : Str) : decide ((Sum.inl a : Key) = Sum.inr b) = false := decide_eq_false (fun q => nomatch q)
theorem key_rl (a : Str) (b : Int) : decide ((Sum.inr a : Key) = Sum.inl b) = false := decide_eq_false (fun q => nomatch q)

def mixKind (prog : Program) (w : World) : PySem.KeyKind prog w Key where
  is := keyIs
  hash := keyH w
  inj := fun v a b ha hb => by
    rcases keyIs_shape ha with ⟨i, t, rfl, rfl⟩ | ⟨x, t, rfl, rfl⟩
    · rcases keyIs_shape hb with ⟨j, u, rfl, e⟩ | ⟨y, u, rfl, e⟩
      · injection e with e1 _; rw [e1]
      · exact nomatch e
    · rcases keyIs_shape hb with ⟨j, u, rfl, e⟩ | ⟨y, u, rfl, e⟩
      · exact nomatch e
      · injection e with e1 _; rw [e1]
  byValue := fun k v h => by
    rcases keyIs_shape h with ⟨i, t, rfl, rfl⟩ | ⟨x, t, rfl, rfl⟩ <;> rfl
  pyHash := fun hv h => by
    rcases keyIs_shape hv with ⟨i, t, rfl, rfl⟩ | ⟨x, t, rfl, rfl⟩
    · exact wpAny_pyHash_int h
    · exact wpAny_pyHash_str h
  eqBool := fun hu hv h => by
    rcases keyIs_shape hu with ⟨i, t, rfl, rfl⟩ | ⟨x, t, rfl, rfl⟩
    · rcases keyIs_shape hv with ⟨j, u, rfl, rfl⟩ | ⟨y, u, rfl, rfl⟩
      · rw [key_ll] at h; exact wpAny_eqBool_int h
      · rw [key_lr] at h; exact SeqAt.EqAt.int_str i t y u _ _ _ _ h
    · rcases keyIs_shape hv with ⟨j, u, rfl, rfl⟩ | ⟨y, u, rfl, rfl⟩
      · rw [key_rl] at h; exact SeqAt.EqAt.str_int x t j u _ _ _ _ h
      · rw [key_rr] at h; exact wpAny_eqBool_str h
  «strs» := fun k x t v h => by
    rcases keyIs_shape h with ⟨i, u, rfl, e⟩ | ⟨y, u, rfl, e⟩
    · exact nomatch e
    · injection e with e1 _
      subst e1
      cases v <;> rfl

theorem mixKind_int (prog : Program) (w : World) (i : Int) (t : Tok) : (mixKind prog w).is (.inl i) (.int i t) = true := keyIs_int i t
theorem mixKind_str (prog : Program) (w : World) (x : Str) (t : Tok) : (mixKind prog w).is (.inr x) (.str x t) = true := keyIs_str x t
end L2

namespace L2
open PySem PySem.Spec PyProof.Rows

/-- a value, without the heap -/
inductive V where
  | non | bl (b : Bool) | int (i : Int) | str (x : Str) | byt (b : Array UInt8) | flt (b : UInt64) | ref (a : Addr) | ty (n : String)
  deriving DecidableEq

def RelV : V → Value → Prop
  | .non, u => u = Value.none
  | .bl b, u => u = Value.bool b
  | .int i, u => ∃ t, u = Value.int i t
  | .str x, u => ∃ t, u = Value.str x t
  | .byt b, u => ∃ t, u = Value.bytes b t
  | .flt b, u => ∃ t, u = Value.float b t
  | .ref a, u => u = Value.ref a
  | .ty n, u => u = Value.type n

abbrev Vals : List V → List Value → Prop := Paired RelV
theorem Vals.length {xs : List V} {us : List Value} (r : Vals xs us) : xs.length = us.length := Paired.length r
theorem Vals.get : ∀ {xs : List V} {us : List Value} {i : Nat} {x : V}, Vals xs us → xs[i]? = some x → ∃ u, us[i]? = some u ∧ RelV x u
  | _, _, _, _, .nil, e => by simp at e
  | _, _, 0, _, .cons r _, e => by simp at e; subst e; exact ⟨_, rfl, r⟩
  | _, _, i + 1, x, .cons _ t, e => by
    obtain ⟨u, h1, h2⟩ := Vals.get (i := i) (x := x) t (by simpa using e)
    exact ⟨u, by simpa using h1, h2⟩
theorem Vals.append : ∀ {xs ys : List V} {us ws : List Value}, Vals xs us → Vals ys ws → Vals (xs ++ ys) (us ++ ws)
  | _, _, _, _, .nil, s => s
  | _, _, _, _, .cons r t, s => .cons r (Vals.append t s)
theorem Vals.take : ∀ {xs : List V} {us : List Value} (n : Nat), Vals xs us → Vals (xs.take n) (us.take n)
  | _, _, 0, _ => .nil
  | _, _, _ + 1, .nil => .nil
  | _, _, n + 1, .cons r t => .cons r (Vals.take n t)
theorem Vals.drop : ∀ {xs : List V} {us : List Value} (n : Nat), Vals xs us → Vals (xs.drop n) (us.drop n)
  | _, _, 0, r => r
  | _, _, _ + 1, .nil => .nil
  | _, _, n + 1, .cons _ t => Vals.drop n t

def RelO : Option V → Option Value → Prop
  | some v, some u => RelV v u
  | none, none => True
  | _, _ => False
def KV {κ : Type} : List (κ × V) → List (κ × Value) → Prop := Paired fun (p : κ × V) (q : κ × Value) => p.1 = q.1 ∧ RelV p.2 q.2

/-- a key of a dict (00_mix): an int or a text -/
def kV : Key → V
  | .inl i => .int i
  | .inr x => .str x

/-- what stands at a tracked address -/
inductive HO where
  /-- a list -/
  | lst (xs : List V)
  /-- a tuple (never changes) -/
  | tup (xs : List V)
  /-- a dict whose keys are ints and texts; one whose keys are tuples of ints and texts (the empty one is both) -/
  | dK (kvs : List (Key × V)) | dT (kvs : List (List Key × V))
  /-- a set of ints: its members, its size -/
  | set (S : Int → Bool) (n : Nat)
  /-- an instance of the class at C, its dict at dx, its attributes -/
  | ins (C dx : Addr) (fs : List (Str × V))
  /-- the dict of the instance at x -/
  | own (x : Addr)
  /-- the dict of an exception -/
  | xd (fs : List (Str × V))
  /-- a bound method, f of x -/
  | met (f x : Addr)
  /-- a range object lo, lo + 1, .. below hi -/
  | rng (lo hi : Int)
  /-- a thing that is known to the object (the script; a dict while a loop walks it): read, never written while it is so -/
  | frz (o : Obj) (u : HO)
  /-- a code object's table -/
  | tbl (ps : Array Value)
  /-- any other thing, by what is true of its one object (a def of one's own: SetO a S n := HO.ext fun h => ..) -/
  | ext (φ : Heap → Prop)

abbrev Hp := Addr → Option HO
def upd (H : Hp) (a : Addr) (o : HO) : Hp := fun b => if b = a then some o else H b
theorem upd_same {H : Hp} {a : Addr} {o : HO} : upd H a o a = some o := by unfold upd; rw [if_pos rfl]
theorem upd_ne {H : Hp} {a b : Addr} {o : HO} (h : b ≠ a) : upd H a o b = H b := by unfold upd; rw [if_neg h]
theorem upd_upd {H : Hp} {a : Addr} {o u : HO} : upd (upd H a o) a u = upd H a u := by
  funext b; unfold upd; split <;> rfl
/-- two objects of different content stand apart -/
theorem ne_of {H : Hp} {a b : Addr} {o u : HO} (h : H a = some o) (h' : H b = some u) (d : o ≠ u) : a ≠ b := by
  intro e; subst e; rw [h] at h'; exact d (Option.some.inj h')
theorem ne_of_none {H : Hp} {a b : Addr} {o : HO} (h : H a = some o) (h' : H b = none) : a ≠ b := by
  intro e; subst e; rw [h] at h'; cases h'

section
variable (P : Program) (w : World)
def ObjOk (H : Hp) (h : Heap) (a : Addr) : HO → Prop
  | .lst xs => xs.length ≤ sizeLine ∧ ∃ (its : List Value) (n : Nat), Vals xs its ∧ h.get? a = some { cls := .type "list", data := .seq its.toArray n }
  | .tup xs => xs.length ≤ sizeLine ∧ ∃ its : List Value, Vals xs its ∧ IsTup h a its.toArray
  | .dK kvs => kvs.length ≤ sizeLine ∧ (a == sysModules) = false ∧ ∃ vs, KV kvs vs ∧ h.DictOf (mixKind P w) a vs
  | .dT kvs => kvs.length ≤ sizeLine ∧ (a == sysModules) = false ∧ ∃ xs : List (List Key × Addr × Value),
      Paired (fun (p : List Key × V) (q : List Key × Addr × Value) => p.1 = q.1 ∧ H q.2.1 = some (.tup (p.1.map kV)) ∧ RelV p.2 q.2.2) kvs xs ∧
      ∃ o es ep, h.get? a = some o ∧ o.ExactDict ∧ o.data = .dict es ep ∧ es.toList = xs.map (entryOfKey (tupleKind (mixKind P w))) ∧ (xs.map (·.1)).Nodup
  | .set S n => h.SetOf (intKind P w) a S n
  | .ins C dx fs => H dx = some (.own a) ∧ fs.length ≤ 1000 ∧ dx ≠ a ∧ h.get? a = some (PySem.W.instObj C dx) ∧
      ∃ mA, h.Ns1 dx mA ∧ (∀ f, RelO (fs.lookup f) (mA f)) ∧ PySem.Within mA (fs.map (·.1))
  | .own _ => ∃ o, h.get? a = some o
  | .xd fs => ∃ mA, h.Ns1 a mA ∧ ∀ f, RelO (fs.lookup f) (mA f)
  | .rng lo hi => ∃ t u v, h.get? a = some { cls := .type "range", data := .fields #[.int lo t, .int hi u, .int 1 v] }
  | .frz o u => h.get? a = some o ∧ ObjOk H h a u
  | .tbl ps => h.get? a = some { cls := .none, data := .fields ps }
  | .met f x => h.get? a = some (PySem.W.methodObj (.ref f) (.ref x))
  | .ext φ => φ h ∧ (∃ o, h.get? a = some o) ∧ ∀ h1 h2 : Heap, φ h1 → (∀ o, h1.get? a = some o → h2.get? a = some o) → φ h2
/-- the abstract heap is held -/
def HOk (H : Hp) (h : Heap) : Prop := ∀ a o, H a = some o → ObjOk P w H h a o
end

section
variable {P : Program} {w : World} {H H' : Hp} {h h' : Heap} {a : Addr} {o : HO}
theorem ObjOk.lt (x : ObjOk P w H h a o) : a < h.objs.size := by
  cases o with
  | lst xs => obtain ⟨_, _, _, _, e⟩ := x; exact Heap.lt_size e
  | tup xs => obtain ⟨_, _, _, p⟩ := x; exact p.lt
  | dK kvs => obtain ⟨_, _, _, _, o, _, _, e, _⟩ := x; exact Heap.lt_size e
  | dT kvs => obtain ⟨_, _, _, _, o, _, _, e, _⟩ := x; exact Heap.lt_size e
  | set S n => obtain ⟨o, _, _, _, e, _⟩ := x; exact Heap.lt_size e
  | ins C dx fs => obtain ⟨_, _, _, e, _⟩ := x; exact Heap.lt_size e
  | own y => obtain ⟨_, e⟩ := x; exact Heap.lt_size e
  | xd fs => obtain ⟨_, ⟨_, _, _, e, _⟩, _⟩ := x; exact Heap.lt_size e
  | rng lo hi => obtain ⟨_, _, _, e⟩ := x; exact Heap.lt_size e
  | frz ob u => obtain ⟨e, _⟩ := x; exact Heap.lt_size e
  | tbl ps => exact Heap.lt_size (show h.get? a = some _ from x)
  | met f y => exact Heap.lt_size (show h.get? a = some _ from x)
  | ext φ => obtain ⟨_, ⟨_, e⟩, _⟩ := x; exact Heap.lt_size e
theorem Paired.mapP {α β : Type} {F G : α → β → Prop} : ∀ {l₁ : List α} {l₂ : List β}, Paired F l₁ l₂ → (∀ a b, F a b → G a b) → Paired G l₁ l₂
  | _, _, .nil, _ => .nil
  | _, _, .cons r t, f => .cons (f _ _ r) (Paired.mapP t f)
/-- what an object's description leans on: its own object, its own dict, the tuples -/
theorem ObjOk.stay (x : ObjOk P w H h a o) (k : ∀ b u, (b = a ∨ H b = some (.own a)) → h.get? b = some u → h'.get? b = some u)
    (ho : ∀ b, H b = some (.own a) → H' b = some (.own a)) (ht : ∀ b xs, H b = some (.tup xs) → H' b = some (.tup xs)) : ObjOk P w H' h' a o := by
  induction o with
  | lst xs => obtain ⟨z, its, n, r, e⟩ := x; exact ⟨z, its, n, r, k _ _ (.inl rfl) e⟩
  | tup xs => obtain ⟨z, its, r, ob, e, c⟩ := x; exact ⟨z, its, r, ob, k _ _ (.inl rfl) e, c⟩
  | dK kvs => obtain ⟨z, y, vs, r, ob, es, ep, e, c⟩ := x; exact ⟨z, y, vs, r, ob, es, ep, k _ _ (.inl rfl) e, c⟩
  | dT kvs =>
    obtain ⟨z, y, xs, r, ob, es, ep, e, c⟩ := x
    exact ⟨z, y, xs, Paired.mapP r fun p q z => ⟨z.1, ht _ _ z.2.1, z.2.2⟩, ob, es, ep, k _ _ (.inl rfl) e, c⟩
  | set S n => obtain ⟨ob, es, ep, t, e, c⟩ := x; exact ⟨ob, es, ep, t, k _ _ (.inl rfl) e, c⟩
  | ins C dx fs =>
    obtain ⟨d, z, ne, e, mA, ⟨od, es, ep, e2, c⟩, r⟩ := x
    exact ⟨ho _ d, z, ne, k _ _ (.inl rfl) e, mA, ⟨od, es, ep, k _ _ (.inr d) e2, c⟩, r⟩
  | own y => obtain ⟨ob, e⟩ := x; exact ⟨ob, k _ _ (.inl rfl) e⟩
  | xd fs => obtain ⟨mA, ⟨od, es, ep, e, c⟩, r⟩ := x; exact ⟨mA, ⟨od, es, ep, k _ _ (.inl rfl) e, c⟩, r⟩
  | rng lo hi => obtain ⟨t, u, v, e⟩ := x; exact ⟨t, u, v, k _ _ (.inl rfl) e⟩
  | frz ob u ih => obtain ⟨e, q⟩ := x; exact ⟨k _ _ (.inl rfl) e, ih q⟩
  | tbl ps =>
    have e : h.get? a = some { cls := .none, data := .fields ps } := x
    show h'.get? a = some { cls := .none, data := .fields ps }
    exact k a _ (.inl rfl) e
  | met f y =>
    have e : h.get? a = some (PySem.W.methodObj (.ref f) (.ref y)) := x
    show h'.get? a = some (PySem.W.methodObj (.ref f) (.ref y))
    exact k a _ (.inl rfl) e
  | ext φ => obtain ⟨p, ⟨o, e⟩, st⟩ := x; exact ⟨st _ _ p fun o q => k _ _ (.inl rfl) q, ⟨o, k _ _ (.inl rfl) e⟩, st⟩
theorem HOk.lt (x : HOk P w H h) (e : H a = some o) : a < h.objs.size := (x a o e).lt
theorem HOk.fresh (x : HOk P w H h) (e : h.objs.size ≤ a) : H a = none := by
  cases q : H a with
  | none => rfl
  | some u => exact absurd (Nat.lt_of_lt_of_le (x.lt q) e) (Nat.lt_irrefl _)
/-- every object of the heap is kept -/
theorem HOk.kept (x : HOk P w H h) (k : ∀ b u, h.get? b = some u → h'.get? b = some u) : HOk P w H h' := fun a o e =>
  (x a o e).stay (fun b u _ q => k b u q) (fun _ q => q) fun _ _ q => q
/-- a new object is laid and tracked -/
theorem HOk.laid (x : HOk P w H h) (k : ∀ b u, h.get? b = some u → h'.get? b = some u) (hp : h.objs.size ≤ a) (new : ObjOk P w (upd H a o) h' a o) : HOk P w (upd H a o) h' := fun b u e => by
  have hn := x.fresh hp
  by_cases hb : b = a
  · subst hb; rw [upd_same] at e; cases e; exact new
  · rw [upd_ne hb] at e
    exact (x b u e).stay (fun c v _ q => k c v q) (fun c q => by rw [upd_ne (ne_of_none q hn)]; exact q) fun c xs q => by rw [upd_ne (ne_of_none q hn)]; exact q
end

/-- what may be read as u: it is u, or a known u -/
def Rd (H : Hp) (a : Addr) (u : HO) : Prop := H a = some u ∨ ∃ o, H a = some (.frz o u)
theorem Rd.ok {P : Program} {w : World} {H : Hp} {h : Heap} {a : Addr} {u : HO} (r : Rd H a u) (x : HOk P w H h) : ObjOk P w H h a u := by
  rcases r with r | ⟨o, r⟩
  · exact x a u r
  · obtain ⟨_, q⟩ := x a _ r
    exact q
/-- what may be written -/
def Mut : Option HO → Prop
  | some (.lst _) => True
  | some (.dK _) => True
  | some (.dT _) => True
  | some (.set _ _) => True
  | some (.ins _ _ _) => True
  | some (.ext _) => True
  | _ => False
section
variable {P : Program} {w : World} {H : Hp} {h h' : Heap} {x e : Addr} {o' : HO}
/-- the object at e is changed: x itself, or the dict of the instance x -/
theorem HOk.write (ok : HOk P w H h) (mu : Mut (H x)) (he : e = x ∨ H e = some (.own x)) (k : ∀ b u, b ≠ e → h.get? b = some u → h'.get? b = some u) (heo : ∃ u, h'.get? e = some u)
    (new : ObjOk P w (upd H x o') h' x o') : HOk P w (upd H x o') h' := fun b u q => by
  have nown : ∀ c y, H c = some (.own y) → c ≠ x := fun c y r z => by subst z; rw [r] at mu; exact mu
  have ntup : ∀ c xs, H c = some (.tup xs) → c ≠ x := fun c xs r z => by subst z; rw [r] at mu; exact mu
  by_cases hb : b = x
  · subst hb; rw [upd_same] at q; cases q; exact new
  · rw [upd_ne hb] at q
    by_cases hbe : b = e
    · have q' : H b = some (.own x) := by
        rcases he with z | z
        · exact absurd (hbe.trans z) hb
        · rw [hbe]; exact z
      rw [q] at q'; cases q'
      obtain ⟨v, hv⟩ := heo
      exact ⟨v, by rw [hbe]; exact hv⟩
    · refine (ok b u q).stay (fun c v hc r => k c v ?_ r) (fun c r => by rw [upd_ne (nown c b r)]; exact r) fun c xs r => by rw [upd_ne (ntup c xs r)]; exact r
      rcases hc with rfl | hc
      · exact hbe
      · rintro rfl
        rcases he with z | z
        · exact nown c b hc z
        · rw [hc] at z; cases z; exact hb rfl
end

/-! ### kept unless tracked; of the frames at fs (the callers') the slots may change (an exception that passes writes there); of the records at ex (iterators) nothing is said -/
structure Un (fs ex : List Addr) (H H' : Hp) (h h' : Heap) : Prop where
  keep : ∀ b o, h.get? b = some o → H b = none → b ∉ fs → b ∉ ex → h'.get? b = some o
  slot : ∀ b o, h.get? b = some o → H b = none → b ∈ fs → b ∉ ex → ∃ sl, h'.get? b = some { o with slots := sl }
  free : ∀ b o, h.get? b = some o → H b = none → b ∉ ex → H' b = none
  there : ∀ b o, h.get? b = some o → b ∉ ex → ∃ o', h'.get? b = some o'
  tups : ∀ b xs, H b = some (.tup xs) → H' b = some (.tup xs)
  frzs : ∀ b o u, H b = some (.frz o u) → H' b = some (.frz o u)
  tbls : ∀ b ps, H b = some (.tbl ps) → ∃ more, H' b = some (.tbl (ps ++ more))
section
variable {fs fs' ex ex' : List Addr} {H H1 H2 : Hp} {h h1 h2 h' : Heap} {a x e : Addr} {o : HO}
theorem Un.any (u : Un fs ex H H1 h h1) {b : Addr} {ob : Obj} (q : h.get? b = some ob) (n : H b = none) (hx : b ∉ ex) : ∃ sl, h1.get? b = some { ob with slots := sl } := by
  by_cases hb : b ∈ fs
  · exact u.slot b ob q n hb hx
  · exact ⟨ob.slots, u.keep b ob q n hb hx⟩
theorem Un.kept (k : ∀ b u, h.get? b = some u → h'.get? b = some u) : Un fs ex H H h h' :=
  ⟨fun b ob q _ _ _ => k b ob q, fun b ob q _ _ _ => ⟨ob.slots, k b ob q⟩, fun _ _ _ n _ => n, fun b ob q _ => ⟨ob, k b ob q⟩, fun _ _ q => q, fun _ _ _ q => q, fun _ ps q => ⟨#[], by rw [q]; simp⟩⟩
theorem Un.refl : Un fs ex H H h h := Un.kept fun _ _ q => q
theorem Un.laid (k : ∀ b u, h.get? b = some u → h'.get? b = some u) (hp : h.objs.size ≤ a) (hn : H a = none) : Un fs ex H (upd H a o) h h' where
  keep := fun b u q _ _ _ => k b u q
  slot := fun b u q _ _ _ => ⟨u.slots, k b u q⟩
  free := fun b u q n _ => by rw [upd_ne (Nat.ne_of_lt (Nat.lt_of_lt_of_le (Heap.lt_size q) hp))]; exact n
  there := fun b u q _ => ⟨u, k b u q⟩
  tups := fun b xs q => by rw [upd_ne (ne_of_none q hn)]; exact q
  frzs := fun b u xs q => by rw [upd_ne (ne_of_none q hn)]; exact q
  tbls := fun b ps q => ⟨#[], by rw [upd_ne (ne_of_none q hn), q]; simp⟩
theorem Un.write (mu : Mut (H x)) (he : e = x ∨ H e = some (.own x)) (k : ∀ b u, b ≠ e → h.get? b = some u → h'.get? b = some u) (heo : ∃ u, h'.get? e = some u) : Un fs ex H (upd H x o) h h' := by
  have hx : ∀ b, H b = none → b ≠ x := fun b n z => by subst z; rw [n] at mu; exact mu
  have hb : ∀ b, H b = none → b ≠ e := fun b n z => by
    subst z
    rcases he with r | r
    · exact hx b n r
    · rw [n] at r; cases r
  have hm : ∀ b u, H b = some u → ¬ Mut (some u) → b ≠ x := fun b u q nm z => by subst z; rw [q] at mu; exact nm mu
  refine ⟨fun b u q n _ _ => k b u (hb b n) q, fun b u q n _ _ => ⟨u.slots, k b u (hb b n) q⟩, fun b u q n _ => by rw [upd_ne (hx b n)]; exact n, fun b u q _ => ?_,
    fun b xs q => by rw [upd_ne (hm b _ q fun z => z)]; exact q, fun b u xs q => by rw [upd_ne (hm b _ q fun z => z)]; exact q, fun b ps q => ⟨#[], by rw [upd_ne (hm b _ q fun z => z), q]; simp⟩⟩
  by_cases hbe : b = e
  · subst hbe; exact heo
  · exact ⟨u, k b u hbe q⟩
end

/-! ### the heap without what is tracked -/
def trk (h : Heap) (H : Hp) : List Addr := (List.range h.objs.size).filter fun a => (H a).isSome
def hidT (h : Heap) (H : Hp) : Heap := PySem.W.hideAll h (trk h H)
theorem hidT_size (h : Heap) (H : Hp) : (hidT h H).objs.size = h.objs.size := PySem.W.hideAll_size _ _
theorem hidT_get {h : Heap} {H : Hp} {b : Addr} {o : Obj} (e : h.get? b = some o) (n : H b = none) : (hidT h H).get? b = some o :=
  PySem.W.hideAll_get _ e fun hm => by
    have q : (H b).isSome = true := (List.mem_filter.mp hm).2
    rw [n] at q; simp at q
theorem of_hidT {h : Heap} {H : Hp} {b : Addr} {o : Obj} (e : (hidT h H).get? b = some o) : h.get? b = some o ∧ H b = none := by
  have e' : h.get? b = some o := PySem.W.of_hideAll (trk h H) e
  refine ⟨e', ?_⟩
  cases q : H b with
  | none => rfl
  | some x =>
    have hm : b ∈ trk h H := List.mem_filter.mpr ⟨List.mem_range.mpr (Heap.lt_size e'), by simp [q]⟩
    have z : (hidT h H).get? b = none := PySem.W.hideAll_none (trk h H) hm
    rw [z] at e; cases e

/-! ### OpenK's ledger, filled with every new object but one -/
end L2

namespace L2
open PySem PySem.Spec PyProof.Rows

/-- the module's facts, over the base: the heap at the law's entry without what is tracked there -/
structure Mod (K : PySem.W.Frag) (mg : Str → Option Value) (base : Heap) : Prop where
  kin : K.In base
  glob : base.Ns mainGlobals mg
  blt : ∃ mb, base.Ns builtinsNs mb ∧ ∀ x : Str, x ≠ "__name__" → mb x = bootBuiltins x
  nolimit : base.NoLimit

/-- the context: a def's body (or a comprehension's block) running. base: fixed through the whole law; s₀, H₀: the entry; outer: the frames whose slots others may change (a def's callers); stack: all frames that run;
   ex: iterators that were made ahead of the entry and are walked here (a comprehension's); fn: the names whose cells were made at the entry (a def: all; a comprehension's block: its own); calm: not within an except suite; pn: pins that every state bears; xe: what is wanted of an exception that leaves the code -/
structure Cx where
  prog : Program
  w : World
  K : PySem.W.Frag
  mg : Str → Option Value
  base : Heap
  A : Around
  N : List Str
  s_0 : Shared
  H_0 : Hp
  env : Env
  outer : List Env
  stack : List Env
  ex : List Addr
  fn : Str → Bool
  calm : Bool
  pn : List (Addr × Obj)
  xe : Value → Shared → Prop
/-- the callers' frames -/
def frs (l : List Env) : List Addr := l.filterMap (·.frame)
abbrev Cx.fs (X : Cx) : List Addr := frs X.outer

def Vis (sc : Scope) (x : Str) : Prop := sc.names.lookup x = some .local ∨ sc.names.lookup x = some .cell ∨ sc.names.lookup x = some .free
def Loc (sc : Scope) (x : Str) : Prop := sc.names.lookup x = some .local ∨ sc.names.lookup x = some .cell
def Look (env : Env) (h : Heap) (m : Str → Option Value) (x : Str) (u : Value) : Prop :=
  (env.kindOf x = some .local ∧ m x = some u) ∨ ((env.kindOf x = some .cell ∨ env.kindOf x = some .free) ∧ ∃ c, env.cells.lookup x = some c ∧ h.IsCell c (some u))

structure Cx.Ok (X : Cx) : Prop where
  mod : Mod X.K X.mg X.base
  kind : X.env.scope.kind = .function
  glob : X.env.globals = mainGlobals
  blt : X.env.builtins = builtinsNs
  above : X.s_0.heap.objs.size ≤ X.env.locals
  inj : ∀ x y c, X.env.cells.lookup x = some c → X.env.cells.lookup y = some c → x = y
  has : ∀ x, (X.env.kindOf x = some .cell ∨ X.env.kindOf x = some .free) → ∃ c, X.env.cells.lookup x = some c
  cab : ∀ x c, X.fn x = true → X.env.cells.lookup x = some c → X.s_0.heap.objs.size ≤ c
  hd : X.calm = true → X.A.handled = none
  frames : X.A.frames = some X.stack
  stk : X.stack = X.outer ∨ (X.stack = X.env :: X.outer ∧ X.env.frame = some X.env.locals)
  exf : ∀ b ∈ X.ex, b ≠ X.env.locals ∧ ∀ x c, X.env.cells.lookup x = some c → c ≠ b
  bs : ∀ b o, X.base.get? b = some o → X.s_0.heap.get? b = some o ∧ X.H_0 b = none
  bsz : X.base.objs.size ≤ X.s_0.heap.objs.size
  noex : ∀ b o, X.base.get? b = some o → b ∉ X.ex
  exfs : ∀ b ∈ X.ex, b ∉ X.fs
  funs : X.s_0.heap.FunFrames X.base X.outer
  frf : ∀ b ∈ X.fs, X.H_0 b = none

structure Inv (X : Cx) (pins : List (Addr × Obj)) (σ : List (Option V)) (H : Hp) (s : Shared) : Prop where
  ok : X.Ok
  os : s.os = X.s_0.os
  bare : AllBare s.gens
  base : Un X.fs X.ex X.H_0 H X.s_0.heap s.heap
  loc : ∃ m, s.heap.Ns X.env.locals m ∧ ∀ (i : Nat) (x : Str) (v : V), X.N[i]? = some x → σ[i]? = some (some v) → Vis X.env.scope x → ∃ u, RelV v u ∧ Look X.env s.heap m x u
  cell : ∀ x c, X.env.cells.lookup x = some c → ∃ v, s.heap.IsCell c v
  free : H X.env.locals = none
  freeC : ∀ x c, X.env.cells.lookup x = some c → H c = none
  pin : ∀ p ∈ X.pn ++ pins, s.heap.get? p.1 = some p.2 ∧ H p.1 = none ∧ p.1 ≠ X.env.locals ∧ p.1 ∉ X.fs ∧ ∀ v, p.2.data ≠ .cell v
  hok : HOk X.prog X.w H s.heap
  len : σ.length = X.N.length

section
variable {X : Cx} {pins : List (Addr × Obj)} {σ : List (Option V)} {H H' : Hp} {s : Shared} {h' : Heap}

theorem Cx.Ok.nofr (ok : X.Ok) {b : Addr} {o : Obj} (e : X.base.get? b = some o) : b ∉ X.fs := fun hb => by
  have := (ok.funs.mem hb).1
  rw [e] at this; cases this
theorem Inv.bs (I : Inv X pins σ H s) : ∀ b o, X.base.get? b = some o → s.heap.get? b = some o ∧ H b = none := fun b o e =>
  ⟨I.base.keep b o (I.ok.bs b o e).1 (I.ok.bs b o e).2 (I.ok.nofr e) (I.ok.noex b o e), I.base.free b o (I.ok.bs b o e).1 (I.ok.bs b o e).2 (I.ok.noex b o e)⟩
theorem Inv.bk (I : Inv X pins σ H s) : ∀ b o, X.base.get? b = some o → s.heap.get? b = some o := fun b o e => (I.bs b o e).1
theorem Inv.mod (I : Inv X pins σ H s) : Mod X.K X.mg X.base := I.ok.mod
theorem Inv.kIn (I : Inv X pins σ H s) : X.K.In s.heap := I.ok.mod.kin.keeps I.bk
theorem Inv.lt (I : Inv X pins σ H s) : X.env.locals < s.heap.objs.size := let ⟨_, hn, _⟩ := I.loc; hn.lt
theorem Inv.sz (I : Inv X pins σ H s) : X.s_0.heap.objs.size ≤ s.heap.objs.size := Nat.le_trans I.ok.above (Nat.le_of_lt I.lt)
theorem Inv.nofs (I : Inv X pins σ H s) {a : Addr} (h : s.heap.objs.size ≤ a) : a ∉ X.fs := fun hb => by
  obtain ⟨_, o, ho, _⟩ := I.ok.funs.mem hb
  exact absurd (Nat.lt_of_lt_of_le (Heap.lt_size ho) (Nat.le_trans I.sz h)) (Nat.lt_irrefl _)
theorem Inv.cne (I : Inv X pins σ H s) : ∀ x c, X.env.cells.lookup x = some c → c ≠ X.env.locals := fun x c e z => by
  obtain ⟨v, o, ho, hd⟩ := I.cell x c e
  obtain ⟨m, ⟨o', es, ep, ho', hd', _⟩, _⟩ := I.loc
  rw [z, ho'] at ho; cases ho; rw [hd'] at hd; cases hd
theorem Inv.funs (I : Inv X pins σ H s) : s.heap.FunFrames X.base X.outer := by
  have all : ∀ (l : List Env), (∀ b ∈ frs l, b ∈ X.fs) → X.s_0.heap.FunFrames X.base l → s.heap.FunFrames X.base l := by
    intro l
    induction l with
    | nil => intro _ _; trivial
    | cons env r ih =>
      intro hs hl
      obtain ⟨hk, ⟨L, o, hf, hn, ho, hd⟩, hr⟩ := hl
      have hL : L ∈ X.fs := hs L (by unfold frs; rw [List.filterMap_cons, hf]; exact List.mem_cons_self)
      obtain ⟨sl, e⟩ := I.base.slot L o ho (I.ok.frf L hL) hL fun z => I.ok.exfs L z hL
      exact ⟨hk, ⟨L, _, hf, hn, e, hd⟩, ih (fun b hb => hs b (by unfold frs; rw [List.filterMap_cons, hf]; exact List.mem_cons_of_mem _ hb)) hr⟩
  exact all X.outer (fun _ hb => hb) I.ok.funs

/-- the frames that run, for a call -/
theorem Inv.stack (I : Inv X pins σ H s) : s.heap.FunFrames X.base X.stack := by
  rcases I.ok.stk with e | ⟨e, hf⟩
  · rw [e]; exact I.funs
  · rw [e]
    obtain ⟨m, hn, _⟩ := I.loc
    refine .cons (by rw [I.ok.kind]; decide) hf hn ?_ I.funs
    exact Heap.get?_none_of_le (Nat.le_trans I.ok.bsz I.ok.above)
theorem Inv.stkSub (I : Inv X pins σ H s) : ∀ b ∈ frs X.stack, b ∈ X.env.locals :: X.fs := fun b hb => by
  rcases I.ok.stk with e | ⟨e, hf⟩
  · rw [e] at hb; exact List.mem_cons_of_mem _ hb
  · rw [e] at hb
    unfold frs at hb
    rw [List.filterMap_cons, hf] at hb
    exact hb
theorem Inv.stkFree (I : Inv X pins σ H s) : ∀ b ∈ frs X.stack, H b = none := fun b hb => by
  rcases List.mem_cons.mp (I.stkSub b hb) with e | hb
  · rw [e]; exact I.free
  · obtain ⟨_, o, ho, _⟩ := I.ok.funs.mem hb
    exact I.base.free b o ho (I.ok.frf b hb) fun z => I.ok.exfs b z hb

/-- THE STEP: the untracked objects but the frame and the records at ch are kept (the callers' frames up to slots), the frame's map is kept, the new abstract heap is held -/
theorem Inv.step {g' : Array GenState} {t' : Nat} {d' : Drawn} {ch : List Addr} (I : Inv X pins σ H s)
    (hch : ∀ b ∈ ch, (b ∈ X.ex ∨ X.s_0.heap.objs.size ≤ b) ∧ b ≠ X.env.locals ∧ (∀ x c, X.env.cells.lookup x = some c → c ≠ b) ∧ ∀ p ∈ X.pn ++ pins, p.1 ≠ b)
    (keep : ∀ b o, b ≠ X.env.locals → b ∉ X.fs → b ∉ ch → s.heap.get? b = some o → H b = none → h'.get? b = some o)
    (slot : ∀ b o, b ≠ X.env.locals → b ∈ X.fs → b ∉ ch → s.heap.get? b = some o → H b = none → ∃ sl, h'.get? b = some { o with slots := sl }) (free : ∀ b o, b ∉ ch → s.heap.get? b = some o → H b = none → H' b = none)
    (there : ∀ b o, b ∉ ch → s.heap.get? b = some o → ∃ o', h'.get? b = some o')
    (tups : ∀ b xs, H b = some (.tup xs) → H' b = some (.tup xs)) (frzs : ∀ b o u, H b = some (.frz o u) → H' b = some (.frz o u)) (tbls : ∀ b ps, H b = some (.tbl ps) → ∃ more, H' b = some (.tbl (ps ++ more)))
    (ns : ∀ m, s.heap.Ns X.env.locals m → h'.Ns X.env.locals m) (hok : HOk X.prog X.w H' h') (hg : AllBare g') :
    Inv X pins σ H' { s with heap := h', gens := g', drawn := d', toks := t' } := by
  have neL : ∀ b o, X.s_0.heap.get? b = some o → b ≠ X.env.locals := fun b o e => Nat.ne_of_lt (Nat.lt_of_lt_of_le (Heap.lt_size e) I.ok.above)
  have neC : ∀ b o, X.s_0.heap.get? b = some o → b ∉ X.ex → b ∉ ch := fun b o e hx hb => by
    rcases (hch b hb).1 with z | z
    · exact hx z
    · exact absurd (Nat.lt_of_lt_of_le (Heap.lt_size e) z) (Nat.lt_irrefl _)
  have cellK : ∀ x c, X.env.cells.lookup x = some c → ∀ v, s.heap.IsCell c v → h'.IsCell c v := fun x c e v ⟨o, ho, hd⟩ => by
    have nch : c ∉ ch := fun z => (hch c z).2.2.1 x c e rfl
    by_cases hc : c ∈ X.fs
    · obtain ⟨sl, q⟩ := slot c o (I.cne x c e) hc nch ho (I.freeC x c e)
      exact ⟨_, q, hd⟩
    · exact ⟨o, keep c o (I.cne x c e) hc nch ho (I.freeC x c e), hd⟩
  refine ⟨I.ok, I.os, hg, ⟨fun b o e n hb hx => ?_, fun b o e n hb hx => ?_, fun b o e n hx => ?_, fun b o e hx => ?_, fun b xs e => tups b xs (I.base.tups b xs e), fun b o xs e => frzs b o xs (I.base.frzs b o xs e), fun b ps e => ?_⟩, ?_, fun x c e => ?_, ?_, fun x c e => ?_, fun p hp => ?_, hok, I.len⟩
  · exact keep b o (neL b o e) hb (neC b o e hx) (I.base.keep b o e n hb hx) (I.base.free b o e n hx)
  · obtain ⟨sl, e1⟩ := I.base.slot b o e n hb hx
    obtain ⟨sl', e2⟩ := slot b _ (neL b o e) hb (neC b o e hx) e1 (I.base.free b o e n hx)
    exact ⟨sl', e2⟩
  · obtain ⟨o', e1⟩ := I.base.there b o e hx
    exact free b o' (neC b o e hx) e1 (I.base.free b o e n hx)
  · obtain ⟨o', e1⟩ := I.base.there b o e hx
    exact there b o' (neC b o e hx) e1
  · obtain ⟨m1, e1⟩ := I.base.tbls b ps e
    obtain ⟨m2, e2⟩ := tbls b _ e1
    exact ⟨m1 ++ m2, by rw [e2, Array.append_assoc]⟩
  · obtain ⟨m, hn, hl⟩ := I.loc
    refine ⟨m, ns m hn, fun i x v e1 e2 e3 => ?_⟩
    obtain ⟨u, r, l⟩ := hl i x v e1 e2 e3
    refine ⟨u, r, ?_⟩
    rcases l with l | ⟨k, c, e, z⟩
    · exact .inl l
    · exact .inr ⟨k, c, e, cellK x c e _ z⟩
  · obtain ⟨v, z⟩ := I.cell x c e
    exact ⟨v, cellK x c e v z⟩
  · obtain ⟨m, ⟨o, _, _, ho, _⟩, _⟩ := I.loc
    exact free _ o (fun z => (hch _ z).2.1 rfl) ho I.free
  · obtain ⟨v, o, ho, hd⟩ := I.cell x c e
    exact free c o (fun z => (hch c z).2.2.1 x c e rfl) ho (I.freeC x c e)
  · obtain ⟨e, n, ne, nf, d⟩ := I.pin p hp
    have nch : p.1 ∉ ch := fun z => (hch p.1 z).2.2.2 p hp rfl
    exact ⟨keep p.1 p.2 ne nf nch e n, free p.1 p.2 nch e n, ne, nf, d⟩
/-- .. where the frame's own object is kept too -/
theorem Inv.un {t' : Nat} (I : Inv X pins σ H s) (u : Un X.fs [] H H' s.heap h') (hok : HOk X.prog X.w H' h') : Inv X pins σ H' { s with heap := h', toks := t' } := by
  obtain ⟨m, ⟨o, es, ep, ho, r⟩, _⟩ := id I.loc
  obtain ⟨sl, hL⟩ := u.any ho I.free (by simp)
  exact I.step (g' := s.gens) (d' := s.drawn) (ch := []) (fun _ z => nomatch z) (fun b o _ hb _ e n => u.keep b o e n hb (by simp)) (fun b o _ hb _ e n => u.slot b o e n hb (by simp)) (fun b o _ e n => u.free b o e n (by simp)) (fun b o _ e => u.there b o e (by simp)) u.tups u.frzs u.tbls (fun m' hm => by
    obtain ⟨o', es', ep', ho', r'⟩ := hm
    rw [ho] at ho'; cases ho'
    exact ⟨_, es', ep', hL, r'⟩) hok I.bare
/-- behind a call (or a comprehension's block): the slots of this frame may have changed too, the records at ch may have turned -/
theorem Inv.call {g' : Array GenState} {t' : Nat} {d' : Drawn} {ch : List Addr} (I : Inv X pins σ H s) (u : Un (frs X.stack) ch H H' s.heap h') (hok : HOk X.prog X.w H' h') (hg : AllBare g')
    (hch : ∀ b ∈ ch, (b ∈ X.ex ∨ X.s_0.heap.objs.size ≤ b) ∧ b ≠ X.env.locals ∧ (∀ x c, X.env.cells.lookup x = some c → c ≠ b) ∧ ∀ p ∈ X.pn ++ pins, p.1 ≠ b) :
    Inv X pins σ H' { s with heap := h', gens := g', drawn := d', toks := t' } := by
  obtain ⟨m, ⟨o, es, ep, ho, r⟩, _⟩ := id I.loc
  obtain ⟨sl, hL⟩ := u.any ho I.free fun z => (hch _ z).2.1 rfl
  exact I.step (ch := ch) hch (fun b o hL hb hc e n => u.keep b o e n (fun z => (List.mem_cons.mp (I.stkSub b z)).elim hL hb) hc) (fun b o _ _ hc e n => u.any e n hc) (fun b o hc e n => u.free b o e n hc) (fun b o hc e => u.there b o e hc) u.tups u.frzs u.tbls (fun m' hm => by
    obtain ⟨o', es', ep', ho', r'⟩ := hm
    rw [ho] at ho'; cases ho'
    exact ⟨_, es', ep', hL, r'⟩) hok hg
/-- an untracked record of ours (an iterator) has turned -/
theorem Inv.turned {t' : Nat} {it : Addr} (I : Inv X pins σ H s) (k : ∀ b o, b ≠ it → s.heap.get? b = some o → h'.get? b = some o) (hn : H it = none) (hL : it ≠ X.env.locals)
    (h1 : it ∈ X.ex ∨ X.s_0.heap.objs.size ≤ it) (h2 : ∀ x c, X.env.cells.lookup x = some c → c ≠ it) (h3 : ∀ p ∈ X.pn ++ pins, p.1 ≠ it) : Inv X pins σ H { s with heap := h', toks := t' } := by
  have nit : ∀ b u, H b = some u → b ≠ it := fun b u e z => by rw [z, hn] at e; cases e
  refine I.step (g' := s.gens) (d' := s.drawn) (ch := [it]) (fun b hb => ?_) (fun b o _ _ hc e _ => k b o (fun z => hc (by simp [z])) e) (fun b o _ _ hc e _ => ⟨o.slots, k b o (fun z => hc (by simp [z])) e⟩) (fun _ _ _ _ n => n)
    (fun b o hc e => ⟨o, k b o (fun z => hc (by simp [z])) e⟩) (fun _ _ e => e) (fun _ _ _ e => e) (fun b ps e => ⟨#[], by rw [e]; simp⟩) (fun m hm => ?_) (fun b u e => ?_) I.bare
  · have e : b = it := by simpa using hb
    subst e
    exact ⟨h1, hL, h2, h3⟩
  · obtain ⟨o, es, ep, ho, r⟩ := hm
    exact ⟨o, es, ep, k _ o (Ne.symm hL) ho, r⟩
  · refine (I.hok b u e).stay (fun c v hc q => k c v ?_ q) (fun _ q => q) fun _ _ q => q
    rcases hc with z | z
    · rw [z]; exact nit b u e
    · exact nit c _ z
theorem Inv.tok (I : Inv X pins σ H s) (t : Nat) : Inv X pins σ H { s with toks := t } := I.un (h' := s.heap) (t' := t) Un.refl I.hok
/-- all objects kept -/
theorem Inv.kept {t' : Nat} (I : Inv X pins σ H s) (k : ∀ b u, s.heap.get? b = some u → h'.get? b = some u) : Inv X pins σ H { s with heap := h', toks := t' } := I.un (Un.kept k) (I.hok.kept k)
/-- a new object laid and tracked -/
theorem Inv.laid {a : Addr} {o : HO} {t' : Nat} (I : Inv X pins σ H s) (k : ∀ b u, s.heap.get? b = some u → h'.get? b = some u) (hp : s.heap.objs.size ≤ a) (new : ObjOk X.prog X.w (upd H a o) h' a o) :
    Inv X pins σ (upd H a o) { s with heap := h', toks := t' } := I.un (Un.laid k hp (I.hok.fresh hp)) (I.hok.laid k hp new)
/-- an object written -/
theorem Inv.write {x e : Addr} {o : HO} {t' : Nat} (I : Inv X pins σ H s) (mu : Mut (H x)) (he : e = x ∨ H e = some (.own x)) (k : ∀ b u, b ≠ e → s.heap.get? b = some u → h'.get? b = some u) (heo : ∃ u, h'.get? e = some u)
    (new : ObjOk X.prog X.w (upd H x o) h' x o) : Inv X pins σ (upd H x o) { s with heap := h', toks := t' } := I.un (Un.write mu he k heo) (I.hok.write mu he k heo new)
/-- forgetting slots, pins -/
theorem Inv.weak {σ' : List (Option V)} (I : Inv X pins σ H s) (hl : σ'.length = σ.length) (w : ∀ (i : Nat) v, σ'[i]? = some (some v) → σ[i]? = some (some v)) : Inv X pins σ' H s :=
  ⟨I.ok, I.os, I.bare, I.base, let ⟨m, hn, hl'⟩ := I.loc; ⟨m, hn, fun i x v e1 e2 e3 => hl' i x v e1 (w i v e2) e3⟩, I.cell, I.free, I.freeC, I.pin, I.hok, hl.trans I.len⟩
theorem Inv.pins_of {pins' : List (Addr × Obj)} (I : Inv X pins σ H s) (h : ∀ p ∈ pins', s.heap.get? p.1 = some p.2 ∧ H p.1 = none ∧ p.1 ≠ X.env.locals ∧ p.1 ∉ X.fs ∧ ∀ v, p.2.data ≠ .cell v) : Inv X pins' σ H s :=
  ⟨I.ok, I.os, I.bare, I.base, I.loc, I.cell, I.free, I.freeC, fun p hp => (List.mem_append.mp hp).elim (fun z => I.pin p (List.mem_append_left _ z)) (h p), I.hok, I.len⟩

theorem nodup_ix {N : List Str} (hN : N.Nodup) {i j : Nat} {x : Str} (a : N[i]? = some x) (b : N[j]? = some x) : i = j := by
  obtain ⟨h1, e1⟩ := List.getElem?_eq_some_iff.mp a
  obtain ⟨h2, e2⟩ := List.getElem?_eq_some_iff.mp b
  exact (List.getElem_inj hN).mp (e1.trans e2.symm)

/-- a name is stored; what changed -/
theorem store_ok2 {M : Model} {A : Around} {E : Value → Shared → Prop} {i : Nat} {x : Str} {v : V} {u : Value} {Q : Unit → Shared → Prop} (I : Inv X pins σ H s) (hN : X.N.Nodup) (hi : X.N[i]? = some x) (hx : Loc X.env.scope x) (r : RelV v u)
    (h : ∀ s', Inv X pins (σ.set i (some v)) H s' → (∃ a, Heap.SameBut a s.heap s'.heap ∧ (a = X.env.locals ∨ X.env.cells.lookup x = some a)) → Q () s') (hf : X.fn x = true ∨ X.env.scope.names.lookup x = some .local := by first | exact .inl rfl | exact .inr rfl | assumption) : wpAny M A (storeName X.env x u) Q E s := by
  obtain ⟨m, hn, hl⟩ := id I.loc
  have hcls : (X.env.scope.kind == .class || (X.env.scope.kind == .module && X.env.locals != X.env.globals)) = false := by rw [I.ok.kind]; rfl
  have hiσ : i < σ.length := by rw [I.len]; exact (List.getElem?_eq_some_iff.mp hi).1
  have cne := I.cne
  have tracked : ∀ {a : Addr} {h' : Heap}, (∃ o, s.heap.get? a = some o ∧ H a = none) → Heap.SameBut a s.heap h' → HOk X.prog X.w H h' := fun {a h'} ha hs b ob e => by
    obtain ⟨_, _, hfree⟩ := ha
    refine (I.hok b ob e).stay (fun c w' hc q => (hs.2 c ?_).trans q) (fun _ q => q) fun _ _ q => q
    rintro rfl
    rcases hc with rfl | hc
    · rw [hfree] at e; cases e
    · rw [hfree] at hc; cases hc
  rcases hx with hk | hk
  · refine wpAny_storeName_local hk hn (fun h' hn' hs => ?_) hcls
    obtain ⟨oL, _, _, hoL, _⟩ := id hn
    refine h _ ⟨I.ok, I.os, I.bare, ⟨fun b o e n hb hx => ?_, fun b o e n hb hx => ?_, I.base.free, fun b o e hx => ?_, I.base.tups, I.base.frzs, I.base.tbls⟩, ⟨_, hn', fun j y v' e1 e2 e3 => ?_⟩, fun y c e => ?_, I.free, I.freeC, fun p hp => ?_, tracked ⟨oL, hoL, I.free⟩ hs, by simpa using I.len⟩ ⟨_, hs, .inl rfl⟩
    · exact (hs.2 b (Nat.ne_of_lt (Nat.lt_of_lt_of_le (Heap.lt_size e) I.ok.above))).trans (I.base.keep b o e n hb hx)
    · obtain ⟨sl, e1⟩ := I.base.slot b o e n hb hx
      exact ⟨sl, (hs.2 b (Nat.ne_of_lt (Nat.lt_of_lt_of_le (Heap.lt_size e) I.ok.above))).trans e1⟩
    · obtain ⟨o', e1⟩ := I.base.there b o e hx
      exact ⟨o', (hs.2 b (Nat.ne_of_lt (Nat.lt_of_lt_of_le (Heap.lt_size e) I.ok.above))).trans e1⟩
    · by_cases hj : j = i
      · subst hj
        rw [hi] at e1; cases e1
        rw [List.getElem?_set_self hiσ] at e2
        cases e2
        exact ⟨u, r, .inl ⟨hk, by simp⟩⟩
      · rw [List.getElem?_set_ne (Ne.symm hj)] at e2
        obtain ⟨u', r', q⟩ := hl j y v' e1 e2 e3
        refine ⟨u', r', ?_⟩
        rcases q with ⟨k, e⟩ | ⟨k, c, e, z⟩
        · refine .inl ⟨k, ?_⟩
          have : y ≠ x := fun e => hj (nodup_ix hN e1 (e ▸ hi))
          simp [this, e]
        · exact .inr ⟨k, c, e, z.sameBut hs (cne y c e)⟩
    · obtain ⟨w', z⟩ := I.cell y c e
      exact ⟨w', z.sameBut hs (cne y c e)⟩
    · obtain ⟨e, n, ne, nf, d⟩ := I.pin p hp
      exact ⟨(hs.2 p.1 ne).trans e, n, ne, nf, d⟩
  · have hfn : X.fn x = true := by
      rcases hf with z | z
      · exact z
      · rw [z] at hk; cases hk
    obtain ⟨c, hc⟩ := I.ok.has x (.inl hk)
    obtain ⟨w', z⟩ := I.cell x c hc
    refine wpAny_storeName_cell I.ok.kind hk hc z (fun h' hc' hs => ?_)
    obtain ⟨oc, hoc, hocd⟩ := id z
    refine h { s with heap := h' } ⟨I.ok, I.os, I.bare, ⟨fun b o e n hb hx => ?_, fun b o e n hb hx => ?_, I.base.free, fun b o e hx => ?_, I.base.tups, I.base.frzs, I.base.tbls⟩, ⟨m, hn.sameBut hs (Ne.symm (cne x c hc)), fun j y v' e1 e2 e3 => ?_⟩, fun y c' e => ?_, I.free, I.freeC, fun p hp => ?_, tracked ⟨oc, hoc, I.freeC x c hc⟩ hs, by simpa using I.len⟩ ⟨c, hs, .inr hc⟩
    · exact (hs.2 b (Nat.ne_of_lt (Nat.lt_of_lt_of_le (Heap.lt_size e) (I.ok.cab x c hfn hc)))).trans (I.base.keep b o e n hb hx)
    · obtain ⟨sl, e1⟩ := I.base.slot b o e n hb hx
      exact ⟨sl, (hs.2 b (Nat.ne_of_lt (Nat.lt_of_lt_of_le (Heap.lt_size e) (I.ok.cab x c hfn hc)))).trans e1⟩
    · obtain ⟨o', e1⟩ := I.base.there b o e hx
      exact ⟨o', (hs.2 b (Nat.ne_of_lt (Nat.lt_of_lt_of_le (Heap.lt_size e) (I.ok.cab x c hfn hc)))).trans e1⟩
    · by_cases hj : j = i
      · subst hj
        rw [hi] at e1; cases e1
        rw [List.getElem?_set_self hiσ] at e2
        cases e2
        exact ⟨u, r, .inr ⟨.inl hk, c, hc, hc'⟩⟩
      · rw [List.getElem?_set_ne (Ne.symm hj)] at e2
        obtain ⟨u', r', q⟩ := hl j y v' e1 e2 e3
        refine ⟨u', r', ?_⟩
        rcases q with q | ⟨k, c', e, z'⟩
        · exact .inl q
        · refine .inr ⟨k, c', e, z'.sameBut hs ?_⟩
          rintro rfl
          exact hj (nodup_ix hN e1 (I.ok.inj _ _ _ e hc ▸ hi))
    · by_cases hcc : c' = c
      · subst hcc; exact ⟨_, hc'⟩
      · obtain ⟨w2, z2⟩ := I.cell y c' e
        exact ⟨w2, z2.sameBut hs hcc⟩
    · obtain ⟨e, n, ne, nf, d⟩ := I.pin p hp
      refine ⟨(hs.2 p.1 ?_).trans e, n, ne, nf, d⟩
      intro q
      rw [q, hoc] at e
      have q' : oc = p.2 := Option.some.inj e
      exact d w' (by rw [← q']; exact hocd)
theorem store_ok {M : Model} {A : Around} {E : Value → Shared → Prop} {i : Nat} {x : Str} {v : V} {u : Value} {Q : Unit → Shared → Prop} (I : Inv X pins σ H s) (hN : X.N.Nodup) (hi : X.N[i]? = some x) (hx : Loc X.env.scope x) (r : RelV v u)
    (h : ∀ s', Inv X pins (σ.set i (some v)) H s' → Q () s') (hf : X.fn x = true ∨ X.env.scope.names.lookup x = some .local := by first | exact .inl rfl | exact .inr rfl | assumption) : wpAny M A (storeName X.env x u) Q E s :=
  store_ok2 I hN hi hx r (fun s' I' _ => h s' I') hf
/-- behind a call or a block, the state as it is -/
theorem Inv.call' {s' : Shared} {ch : List Addr} (I : Inv X pins σ H s) (ho : s'.os = s.os) (u : Un (frs X.stack) ch H H' s.heap s'.heap) (hok : HOk X.prog X.w H' s'.heap) (hg : AllBare s'.gens)
    (hch : ∀ b ∈ ch, (b ∈ X.ex ∨ X.s_0.heap.objs.size ≤ b) ∧ b ≠ X.env.locals ∧ (∀ x c, X.env.cells.lookup x = some c → c ≠ b) ∧ ∀ p ∈ X.pn ++ pins, p.1 ≠ b) : Inv X pins σ H' s' := by
  obtain ⟨h', g', d', t', o'⟩ := s'
  have e : o' = s.os := ho
  subst e
  exact I.call (g' := g') (t' := t') (d' := d') u hok hg hch
end

/-! ### the judgements -/
/-- an exception: its class, its own dict's address (where it has one), the abstract heap behind it -/
abbrev XK := Value → Option Addr → Hp → Prop
abbrev St := List (Option V)
abbrev VK := V → Hp → Prop
/-- an expression's reading; a test's; an argument list's -/
abbrev TE := St → Hp → VK → Prop
abbrev TT := St → Hp → (Bool → Hp → Prop) → Prop
abbrev TA := St → Hp → (List V → Hp → Prop) → Prop
/-- what is wanted behind a statement -/
structure Ends where
  nx : St → Hp → Prop
  rt : VK
  bk : St → Hp → Prop := fun _ _ => False
  ct : St → Hp → Prop := fun _ _ => False
abbrev TS := Ends → St → Hp → Prop

inductive EP (X : Cx) (pins : List (Addr × Obj)) (σ : St) (Q : VK) (u : Value) (s' : Shared) : Prop
  | mk (v : V) (H' : Hp) (I : Inv X pins σ H' s') (r : RelV v u) (q : Q v H') : EP X pins σ Q u s'
inductive TP (X : Cx) (pins : List (Addr × Obj)) (σ : St) (Q : Bool → Hp → Prop) (b : Bool) (s' : Shared) : Prop
  | mk (H' : Hp) (I : Inv X pins σ H' s') (q : Q b H') : TP X pins σ Q b s'
inductive AP (X : Cx) (pins : List (Addr × Obj)) (σ : St) (Q : List V → Hp → Prop) (us : List Value) (s' : Shared) : Prop
  | mk (vs : List V) (H' : Hp) (I : Inv X pins σ H' s') (r : Vals vs us) (q : Q vs H') : AP X pins σ Q us s'
inductive NxP (X : Cx) (pins : List (Addr × Obj)) (N : St → Hp → Prop) (s' : Shared) : Prop
  | mk (σ' : St) (H' : Hp) (I : Inv X pins σ' H' s') (q : N σ' H') : NxP X pins N s'
inductive RtP (X : Cx) (pins : List (Addr × Obj)) (Q : VK) (u : Value) (s' : Shared) : Prop
  | mk (v : V) (σ' : St) (H' : Hp) (I : Inv X pins σ' H' s') (r : RelV v u) (q : Q v H') : RtP X pins Q u s'
def SP (X : Cx) (pins : List (Addr × Obj)) (D : Ends) (f : Flow) (s' : Shared) : Prop :=
  match f with
  | .next => NxP X pins D.nx s'
  | .brk => NxP X pins D.bk s'
  | .cont => NxP X pins D.ct s'
  | .ret u => RtP X pins D.rt u s'

def PE (X : Cx) (e : Expr) (t : TE) : Prop :=
  ∀ (pins : List (Addr × Obj)) (s : Shared) (σ : St) (H : Hp) (Q : VK), Inv X pins σ H s → t σ H Q → wpAny (model X.prog X.w) X.A (eval e X.env) (EP X pins σ Q) X.xe s
def PT (X : Cx) (e : Expr) (t : TT) : Prop :=
  ∀ (pins : List (Addr × Obj)) (s : Shared) (σ : St) (H : Hp) (Q : Bool → Hp → Prop), Inv X pins σ H s → t σ H Q → wpAny (model X.prog X.w) X.A (isTrue e X.env (eval e X.env)) (TP X pins σ Q) X.xe s
/-- a test whatever its 'whole' is (and, or) -/
def PW (X : Cx) (e : Expr) (t : TT) : Prop :=
  ∀ (whole : Sem Value) (pins : List (Addr × Obj)) (s : Shared) (σ : St) (H : Hp) (Q : Bool → Hp → Prop), Inv X pins σ H s → t σ H Q → wpAny (model X.prog X.w) X.A (isTrue e X.env whole) (TP X pins σ Q) X.xe s
theorem PW.pt {X : Cx} {e : Expr} {t : TT} (h : PW X e t) : PT X e t := h _
/-- an argument list (no star), from the left -/
def PA (X : Cx) (es : List Expr) (t : TA) : Prop :=
  ∀ (pos : Pos) (pins : List (Addr × Obj)) (s : Shared) (σ : St) (H : Hp) (Q : List V → Hp → Prop), Inv X pins σ H s → t σ H Q → wpAny (model X.prog X.w) X.A (spliced (backTo pos (starEach es X.env))) (AP X pins σ Q) X.xe s
def PS (X : Cx) (st : Stmt) (t : TS) : Prop :=
  ∀ (pins : List (Addr × Obj)) (s : Shared) (σ : St) (H : Hp) (D : Ends), Inv X pins σ H s → t D σ H → wpAny (model X.prog X.w) X.A (exec st X.env) (SP X pins D) X.xe s
def PSs (X : Cx) (st : List Stmt) (t : TS) : Prop :=
  ∀ (pins : List (Addr × Obj)) (s : Shared) (σ : St) (H : Hp) (D : Ends), Inv X pins σ H s → t D σ H → wpAny (model X.prog X.w) X.A (execs st X.env) (SP X pins D) X.xe s
/-- weaken the end -/
theorem thn {α : Type} {t : Sem α} {Q Q' : α → Shared → Prop} {M : Model} {A : Around} {E : Value → Shared → Prop} {s : Shared} (h : wpAny M A t Q E s) (hQ : ∀ a s, Q a s → Q' a s) : wpAny M A t Q' E s := wpAny_mono h hQ fun _ _ x => x
end L2

namespace L2
open PySem PySem.Spec PyProof.Rows
section
variable {X : Cx}

/-- two expressions in a row -/
theorem bin {a b : Expr} {ta tb : TE} (ha : PE X a ta) (hb : PE X b tb) {pins : List (Addr × Obj)} {s : Shared} {σ : St} {H : Hp} {R : V → V → Hp → Prop} (I : Inv X pins σ H s) (h : ta σ H fun x H1 => tb σ H1 fun y H2 => R x y H2)
    {α : Type} {Q : α → Shared → Prop} {f : Value → Value → Sem α}
    (hf : ∀ v u s2 x y H2, Inv X pins σ H2 s2 → RelV x v → RelV y u → R x y H2 → wpAny (model X.prog X.w) X.A (f v u) Q X.xe s2) :
    wpAny (model X.prog X.w) X.A (eval a X.env) (fun v s₁ => wpAny (model X.prog X.w) X.A (eval b X.env) (fun u s₂ => wpAny (model X.prog X.w) X.A (f v u) Q X.xe s₂) X.xe s₁) X.xe s := by
  refine thn (ha pins s σ H _ I h) fun v s1 ⟨x, H1, I1, r1, q1⟩ => ?_
  refine thn (hb pins s1 σ H1 _ I1 q1) fun u s2 ⟨y, H2, I2, r2, q2⟩ => ?_
  exact hf v u s2 x y H2 I2 r1 r2 q2

/-! ### names and constants -/
inductive VarP (i : Nat) (σ : St) (H : Hp) (Q : VK) : Prop
  | mk (v : V) (e : σ[i]? = some (some v)) (q : Q v H) : VarP i σ H Q
def tVar (i : Nat) : TE := fun σ H Q => VarP i σ H Q
def tC (v : V) : TE := fun _ H Q => Q v H
theorem pe_var {i : Nat} {x : Str} {pos : Pos} (hN : X.N[i]? = some x) (hv : Vis X.env.scope x) (hd : (x == ("__debug__" : Str)) = false := by decide) (hcd : (x == ("__classdict__" : Str)) = false := by decide) : PE X (.Name x pos) (tVar i) := by
  intro pins s σ H Q I h
  obtain ⟨v, e, h⟩ := h
  obtain ⟨m, hn, hl⟩ := I.loc
  obtain ⟨u, r, l⟩ := hl i x v hN e hv
  have fin : EP X pins σ Q u s := ⟨v, H, I, r, h⟩
  rcases l with ⟨hk, hm⟩ | ⟨hk, c, hc, hcell⟩
  · exact wpAny_Name (wpAny_loadName_local I.ok.kind hk hn hm fin) hd
  · rcases hk with hk | hk
    · exact wpAny_Name (wpAny_loadName_cell I.ok.kind hk hc hcell fin) hd
    · exact wpAny_Name (wpAny_loadName_free I.ok.kind hk hc hcell fin hcd) hd
theorem pe_int {i j pos} : PE X (.Constant (.int i) j pos) (tC (.int i)) := fun _ _ _ H _ I h => wpAny_Constant_int ⟨.int i, H, I.tok _, ⟨_, rfl⟩, h⟩
theorem pe_bl {b j pos} : PE X (.Constant (.bool b) j pos) (tC (.bl b)) := fun _ _ _ H _ I h => Constant_bool ⟨.bl b, H, I, rfl, h⟩
theorem pe_non {j pos} : PE X (.Constant .none j pos) (tC .non) := fun _ _ _ H _ I h => Constant_none ⟨.non, H, I, rfl, h⟩

/-- a global name of the def -/
def Gl (X : Cx) (x : Str) : Prop := X.env.kindOf x = some .globalImplicit
theorem ld_glob {E : Value → Shared → Prop} {pins : List (Addr × Obj)} {s : Shared} {σ : St} {H : Hp} {x : Str} {u : Value} {pos : Pos} {Q : Value → Shared → Prop} (I : Inv X pins σ H s) (hg : Gl X x) (hm : X.mg x = some u) (h : Q u s)
    (hd : (x == ("__debug__" : Str)) = false := by decide) : wpAny (model X.prog X.w) X.A (eval (.Name x pos) X.env) Q E s :=
  Calls.Name_function_global I.ok.kind hg (Calls.loadGlobal_global (by rw [I.ok.glob]; exact I.mod.glob.keeps I.bk) hm h) hd
theorem ld_blt {E : Value → Shared → Prop} {pins : List (Addr × Obj)} {s : Shared} {σ : St} {H : Hp} {x : Str} {u : Value} {pos : Pos} {Q : Value → Shared → Prop} (I : Inv X pins σ H s) (hg : Gl X x) (hm : X.mg x = none) (hv : bootBuiltins x = some u) (h : Q u s)
    (hn : x ≠ "__name__" := by decide) (hd : (x == ("__debug__" : Str)) = false := by decide) : wpAny (model X.prog X.w) X.A (eval (.Name x pos) X.env) Q E s := by
  obtain ⟨mb, h1, h2⟩ := I.mod.blt
  exact Calls.Name_function_global I.ok.kind hg (Calls.loadGlobal_builtin (by rw [I.ok.glob]; exact I.mod.glob.keeps I.bk) hm (by rw [I.ok.blt]; exact h1.keeps I.bk) ((h2 x hn).trans hv) h) hd
/-- a module's constant, a class, a function, as a value -/
theorem pe_glob {x : Str} {v : V} {u : Value} {pos : Pos} (hg : Gl X x) (hm : X.mg x = some u) (r : RelV v u) (hd : (x == ("__debug__" : Str)) = false := by decide) : PE X (.Name x pos) (tC v) :=
  fun _ _ _ H _ I h => ld_glob I hg hm ⟨v, H, I, r, h⟩ hd

/-! ### arithmetic -/
/-- two ints -/
inductive TwoP (x y : V) (H : Hp) (k : Int → Int → Hp → Prop) : Prop
  | mk (i j : Int) (ex : x = .int i) (ey : y = .int j) (q : k i j H) : TwoP x y H k
def t2I (ta tb : TE) (k : Int → Int → Hp → Prop) : St → Hp → Prop := fun σ H => ta σ H fun x H1 => tb σ H1 fun y H2 => TwoP x y H2 k
variable {a b : Expr} {ta tb : TE} {pos : Pos}

/-! ### comparisons -/
def PC (X : Cx) (op : CmpOp) (a b : Expr) (t : TE) : Prop :=
  ∀ (pins : List (Addr × Obj)) (s : Shared) (σ : St) (H : Hp) (Q : VK), Inv X pins σ H s → t σ H Q →
    wpAny (model X.prog X.w) X.A (eval a X.env) (fun v s₁ => wpAny (model X.prog X.w) X.A (eval b X.env) (fun u s₂ => wpAny (model X.prog X.w) X.A (compareOp op v u) (EP X pins σ Q) X.xe s₂) X.xe s₁) X.xe s
theorem nobehind (b : Expr) {op : CmpOp} (h : op ≠ .In) (h2 : op ≠ .NotIn) : behindInMarks op b = false := by
  have e1 : (op == CmpOp.In) = false := by cases op <;> first | rfl | exact absurd rfl h
  have e2 : (op == CmpOp.NotIn) = false := by cases op <;> first | rfl | exact absurd rfl h2
  cases b <;> simp [behindInMarks, e1, e2]
def tCmp (p : Int → Int → Bool) (ta tb : TE) : TE := fun σ H Q => t2I ta tb (fun i j H2 => Q (.bl (p i j)) H2) σ H
abbrev tLt : TE → TE → TE := tCmp fun i j => decide (i < j)
abbrev tLe : TE → TE → TE := tCmp fun i j => decide (i ≤ j)
abbrev tGt : TE → TE → TE := tCmp fun i j => decide (j < i)
abbrev tGe : TE → TE → TE := tCmp fun i j => decide (j ≤ i)
abbrev tEqI : TE → TE → TE := tCmp fun i j => decide (i = j)
abbrev tNeI : TE → TE → TE := tCmp fun i j => !decide (i = j)
/-- a comparison of two ints, by its rule -/
theorem pc_int {op : CmpOp} {p : Int → Int → Bool} (ha : PE X a ta) (hb : PE X b tb)
    (rule : ∀ (i j : Int) (t u : Tok) (Q : Value → Shared → Prop) (s : Shared), Q (.bool (p i j)) s → wpAny (model X.prog X.w) X.A (compareOp op (.int i t) (.int j u)) Q X.xe s) : PC X op a b (tCmp p ta tb) := by
  intro pins s σ H Q I h
  refine bin ha hb I h fun v u s2 x y H2 I2 rx ry q => ?_
  obtain ⟨i, j, rfl, rfl, q⟩ := q
  obtain ⟨t, rfl⟩ := rx
  obtain ⟨t', rfl⟩ := ry
  exact rule i j t t' _ s2 ⟨.bl _, H2, I2, rfl, q⟩
theorem pc_lt (ha : PE X a ta) (hb : PE X b tb) : PC X .Lt a b (tLt ta tb) := pc_int ha hb fun _ _ _ _ _ _ h => lt_int h
theorem pc_le (ha : PE X a ta) (hb : PE X b tb) : PC X .LtE a b (tLe ta tb) := pc_int ha hb fun _ _ _ _ _ _ h => le_int h
theorem pc_gt (ha : PE X a ta) (hb : PE X b tb) : PC X .Gt a b (tGt ta tb) := pc_int ha hb fun _ _ _ _ _ _ h => gt_int h
theorem pc_ge (ha : PE X a ta) (hb : PE X b tb) : PC X .GtE a b (tGe ta tb) := pc_int ha hb fun _ _ _ _ _ _ h => ge_int h
theorem pc_eqI (ha : PE X a ta) (hb : PE X b tb) : PC X .Eq a b (tEqI ta tb) := pc_int ha hb fun _ _ _ _ _ _ h => eq_int (by rw [Bool.beq_eq_decide_eq]; exact h)
theorem pc_neI (ha : PE X a ta) (hb : PE X b tb) : PC X .NotEq a b (tNeI ta tb) := pc_int ha hb fun _ _ _ _ _ _ h => ne_int (by rw [bne, Bool.beq_eq_decide_eq]; exact h)
/-- is None -/
def tIsN (ta : TE) : TE := fun σ H Q => ta σ H fun x H1 => Q (.bl (decide (x = .non))) H1
def tNotN (ta : TE) : TE := fun σ H Q => ta σ H fun x H1 => Q (.bl (!decide (x = .non))) H1
theorem RelV.none_iff {x : V} {v : Value} (r : RelV x v) : (v == Value.none) = decide (x = .non) := by
  cases x with
  | non => cases r; rfl
  | bl _ => cases r; rfl
  | int _ => obtain ⟨t, rfl⟩ := r; rfl
  | str _ => obtain ⟨t, rfl⟩ := r; rfl
  | byt _ => obtain ⟨t, rfl⟩ := r; rfl
  | flt _ => obtain ⟨t, rfl⟩ := r; rfl
  | ref _ => cases r; rfl
  | ty _ => cases r; rfl
theorem pc_isN {j pos'} (ha : PE X a ta) : PC X .Is a (.Constant .none j pos') (tIsN ta) := by
  intro pins s σ H Q I h
  refine thn (ha pins s σ H _ I h) fun v s1 ⟨x, H1, I1, r1, q1⟩ => ?_
  exact Constant_none (is_none_gen ⟨.bl _, H1, I1, by rw [r1.none_iff]; rfl, q1⟩)
theorem pc_notN {j pos'} (ha : PE X a ta) : PC X .IsNot a (.Constant .none j pos') (tNotN ta) := by
  intro pins s σ H Q I h
  refine thn (ha pins s σ H _ I h) fun v s1 ⟨x, H1, I1, r1, q1⟩ => ?_
  exact Constant_none (isnot_none_gen ⟨.bl _, H1, I1, by rw [r1.none_iff]; rfl, q1⟩)
/-- a comparison as a value, as a test -/
inductive BlP (x : V) (H : Hp) (Q : Bool → Hp → Prop) : Prop
  | mk (c : Bool) (e : x = .bl c) (q : Q c H) : BlP x H Q
def tB (t : TE) : TT := fun σ H Q => t σ H fun x H1 => BlP x H1 Q
theorem pe_cmp {op : CmpOp} {t : TE} (h : PC X op a b t) (h1 : behindInMarks op b = false := by first | exact nobehind _ (by decide) (by decide) | rfl) : PE X (.Compare a [op] [b] pos) t := fun pins s σ H Q I hw => wpAny_Compare1 (h pins s σ H Q I hw) h1
theorem pt_cmp {op : CmpOp} {t : TE} (h : PC X op a b t) (h1 : behindInMarks op b = false := by first | exact nobehind _ (by decide) (by decide) | rfl) : PT X (.Compare a [op] [b] pos) (tB t) := by
  intro pins s σ H Q I hw
  refine wpAny_isTrue_Compare1 (thn (h pins s σ H _ I hw) fun v s1 h1 => thn h1 fun u s2 h2 => thn h2 fun c s3 ⟨x, H1, I1, r1, q1⟩ => ?_) h1
  obtain ⟨d, rfl, q⟩ := q1
  cases r1
  exact wpAny_truthy_bool ⟨H1, I1, q⟩
/-- an expression whose value is a bool, as a test -/
theorem pt_val {e : Expr} {t : TE} (h : PE X e t) (he : ∀ whole, isTrue e X.env whole = (do let v ← whole; standAt e.pos; holding [v] (truthy v)) := by intro _; rfl) : PT X e (tB t) := by
  intro pins s σ H Q I hw
  refine isTrue_plain (thn (h pins s σ H _ I hw) fun v s1 ⟨x, H1, I1, r1, q1⟩ => ?_) (he _)
  obtain ⟨d, rfl, q⟩ := q1
  cases r1
  exact wpAny_truthy_bool ⟨H1, I1, q⟩

/-! ### and, or, not -/
variable {tA tB' : TT} {rest : List Expr}
def tAnd (t u : TT) : TT := fun σ H Q => t σ H fun c H1 => if c = true then u σ H1 Q else Q false H1
def tOr (t u : TT) : TT := fun σ H Q => t σ H fun c H1 => if c = true then Q true H1 else u σ H1 Q
def tNot (t : TT) : TT := fun σ H Q => t σ H fun c H1 => Q (!c) H1
theorem pw_and1 (ha : PT X a tA) : PW X (.BoolOp .And [a] pos) tA := by
  intro wh pins s σ H Q I h
  refine isTrue_and (thn (ha pins s σ H Q I h) fun c s1 e => ?_)
  cases c with
  | true => exact isTrue_and_nil e
  | false => exact e
theorem pw_or1 (ha : PT X a tA) : PW X (.BoolOp .Or [a] pos) tA := by
  intro wh pins s σ H Q I h
  refine isTrue_or (thn (ha pins s σ H Q I h) fun c s1 e => ?_)
  cases c with
  | false => exact isTrue_or_nil e
  | true => exact e
theorem pw_and (ha : PT X a tA) (hb : PW X (.BoolOp .And (b :: rest) pos) tB') : PW X (.BoolOp .And (a :: b :: rest) pos) (tAnd tA tB') := by
  intro wh pins s σ H Q I h
  refine isTrue_and (thn (ha pins s σ H _ I h) fun c s1 ⟨H1, I1, q1⟩ => ?_)
  cases c with
  | true => exact hb wh pins s1 σ H1 Q I1 q1
  | false => exact ⟨H1, I1, q1⟩
theorem pw_or (ha : PT X a tA) (hb : PW X (.BoolOp .Or (b :: rest) pos) tB') : PW X (.BoolOp .Or (a :: b :: rest) pos) (tOr tA tB') := by
  intro wh pins s σ H Q I h
  refine isTrue_or (thn (ha pins s σ H _ I h) fun c s1 ⟨H1, I1, q1⟩ => ?_)
  cases c with
  | true => exact ⟨H1, I1, q1⟩
  | false => exact hb wh pins s1 σ H1 Q I1 q1
theorem pt_not (ha : PT X a tA) : PT X (.UnaryOp .Not a pos) (tNot tA) := by
  intro pins s σ H Q I h
  exact isTrue_not (thn (ha pins s σ H (fun c H1 => Q (!c) H1) I h) fun c s1 ⟨H1, I1, q1⟩ => ⟨H1, I1, q1⟩)
/-- .. as values (bools) -/
inductive AndP (x : V) (A B : Prop) : Prop
  | mk (c : Bool) (e : x = .bl c) (q : if c = true then A else B) : AndP x A B
def tAndV (ta tb : TE) : TE := fun σ H Q => ta σ H fun x H1 => AndP x (tb σ H1 Q) (Q (.bl false) H1)
def tOrV (ta tb : TE) : TE := fun σ H Q => ta σ H fun x H1 => AndP x (Q (.bl true) H1) (tb σ H1 Q)
theorem pe_one {op} {t : TE} (h : PE X a t) : PE X (.BoolOp op [a] pos) t := fun pins s σ H Q I hw => BoolOp_one (h pins s σ H Q I hw)
theorem pe_and (ha : PE X a ta) (hb : PE X (.BoolOp .And (b :: rest) pos) tb) : PE X (.BoolOp .And (a :: b :: rest) pos) (tAndV ta tb) := by
  intro pins s σ H Q I h
  refine BoolOp_and (thn (ha pins s σ H _ I h) fun v s1 ⟨x, H1, I1, r1, q1⟩ => ?_)
  obtain ⟨c, rfl, q1⟩ := q1
  cases r1
  refine wpAny_truthy_bool ?_
  cases c with
  | true => exact hb pins s1 σ H1 Q I1 q1
  | false => exact ⟨.bl false, H1, I1, rfl, q1⟩
theorem pe_or (ha : PE X a ta) (hb : PE X (.BoolOp .Or (b :: rest) pos) tb) : PE X (.BoolOp .Or (a :: b :: rest) pos) (tOrV ta tb) := by
  intro pins s σ H Q I h
  refine BoolOp_or (thn (ha pins s σ H _ I h) fun v s1 ⟨x, H1, I1, r1, q1⟩ => ?_)
  obtain ⟨c, rfl, q1⟩ := q1
  cases r1
  refine wpAny_truthy_bool ?_
  cases c with
  | false => exact hb pins s1 σ H1 Q I1 q1
  | true => exact ⟨.bl true, H1, I1, rfl, q1⟩
/-- a if t else b -/
def tIf (t : TT) (ta tb : TE) : TE := fun σ H Q => t σ H fun c H1 => if c = true then ta σ H1 Q else tb σ H1 Q
theorem pe_ifExp {c : Expr} (hc : PT X c tA) (ha : PE X a ta) (hb : PE X b tb) : PE X (.IfExp c a b pos) (tIf tA ta tb) := by
  intro pins s σ H Q I h
  refine wpAny_IfExp (thn (hc pins s σ H _ I h) fun d s1 ⟨H1, I1, q1⟩ => ?_)
  cases d with
  | true => exact ha pins s1 σ H1 Q I1 q1
  | false => exact hb pins s1 σ H1 Q I1 q1
end
end L2

namespace L2
open PySem PySem.Spec PyProof.Rows

/-! ### a list, a tuple that is read: tracked, frozen, or an object of the module -/
def SqL (K : PySem.W.Frag) (H : Hp) (a : Addr) (xs : List V) : Prop :=
  Rd H a (.lst xs) ∨
    ∃ (o : Obj) (its : Array Value) (n : Nat), K.lookup a = some o ∧ o.cls = .type "list" ∧ o.dict = none ∧ o.data = .seq its n ∧ its.size ≤ sizeLine ∧ Vals xs its.toList
def SqT (K : PySem.W.Frag) (H : Hp) (a : Addr) (xs : List V) : Prop :=
  Rd H a (.tup xs) ∨
    ∃ (o : Obj) (its : Array Value) (n : Nat), K.lookup a = some o ∧ o.cls = .type "tuple" ∧ o.data = .seq its n ∧ its.size ≤ sizeLine ∧ Vals xs its.toList
def absV : Value → Option V
  | .none => some .non
  | .bool b => some (.bl b)
  | .int i _ => some (.int i)
  | .str x _ => some (.str x)
  | .bytes b _ => some (.byt b)
  | .float b _ => some (.flt b)
  | .ref a => some (.ref a)
  | .type n => some (.ty n)
  | _ => none
theorem RelV.abs {x : V} {u : Value} (r : RelV x u) : absV u = some x := by
  cases x with
  | non => cases r; rfl
  | bl _ => cases r; rfl
  | int _ => obtain ⟨t, rfl⟩ := r; rfl
  | str _ => obtain ⟨t, rfl⟩ := r; rfl
  | byt _ => obtain ⟨t, rfl⟩ := r; rfl
  | flt _ => obtain ⟨t, rfl⟩ := r; rfl
  | ref _ => cases r; rfl
  | ty _ => cases r; rfl
theorem RelV.inj {x y : V} {u : Value} (r : RelV x u) (q : RelV y u) : x = y := Option.some.inj (r.abs.symm.trans q.abs)
theorem Vals.inj : ∀ {xs ys : List V} {us : List Value}, Vals xs us → Vals ys us → xs = ys
  | _, _, _, .nil, .nil => rfl
  | _, _, _, .cons r t, .cons r' t' => by rw [r.inj r', Vals.inj t t']
section
variable {X : Cx} {pins : List (Addr × Obj)} {σ : St} {H : Hp} {s : Shared} {a : Addr} {xs ys : List V}
theorem SqL.of {K : PySem.W.Frag} (h : H a = some (.lst xs)) : SqL K H a xs := .inl (.inl h)
theorem SqT.of {K : PySem.W.Frag} (h : H a = some (.tup xs)) : SqT K H a xs := .inl (.inl h)
inductive LsI (xs : List V) (h : Heap) (a : Addr) : Prop
  | mk (its : List Value) (r : Vals xs its) (p : PlainL h a its.toArray) (z : xs.length ≤ sizeLine) : LsI xs h a
inductive TpI (xs : List V) (h : Heap) (a : Addr) : Prop
  | mk (its : List Value) (r : Vals xs its) (p : IsTup h a its.toArray) (z : xs.length ≤ sizeLine) : TpI xs h a
theorem Inv.list (I : Inv X pins σ H s) (h : SqL X.K H a xs) : LsI xs s.heap a := by
  rcases h with h | ⟨o, its, n, hk, hc, hd, hs, hz, r⟩
  · obtain ⟨z, its, n, r, e⟩ := h.ok I.hok
    exact ⟨its, r, ⟨_, n, e, rfl, rfl, rfl⟩, z⟩
  · refine ⟨its.toList, r, ⟨o, n, I.kIn a o hk, hc, hd, by simpa using hs⟩, ?_⟩
    have e := r.length
    simp only [Array.length_toList] at e
    omega
theorem Inv.tuple (I : Inv X pins σ H s) (h : SqT X.K H a xs) : TpI xs s.heap a := by
  rcases h with h | ⟨o, its, n, hk, hc, hs, hz, r⟩
  · obtain ⟨z, its, r, p⟩ := h.ok I.hok
    exact ⟨its, r, p, z⟩
  · refine ⟨its.toList, r, ⟨o, I.kIn a o hk, hc, n, by simpa using hs⟩, ?_⟩
    have e := r.length
    simp only [Array.length_toList] at e
    omega
theorem Inv.list_inj (I : Inv X pins σ H s) (h : SqL X.K H a xs) (h' : SqL X.K H a ys) : xs = ys := by
  obtain ⟨its, r, ⟨o, n, e, _, _, d⟩, _⟩ := I.list h
  obtain ⟨its', r', ⟨o', n', e', _, _, d'⟩, _⟩ := I.list h'
  rw [e] at e'; cases e'
  rw [d] at d'
  injection d' with d1 _
  have : its = its' := by simpa using congrArg Array.toList d1
  subst this
  exact r.inj r'
end

/-! ### another wish about exceptions -/
abbrev Cx.wish (X : Cx) (E : Value → Shared → Prop) : Cx := { X with xe := E }
/-- no exception leaves -/
abbrev Cx.nox (X : Cx) : Cx := X.wish fun _ _ => False
theorem Cx.Ok.wish {X : Cx} (ok : X.Ok) (E : Value → Shared → Prop) : (X.wish E).Ok :=
  ⟨ok.mod, ok.kind, ok.glob, ok.blt, ok.above, ok.inj, ok.has, ok.cab, ok.hd, ok.frames, ok.stk, ok.exf, ok.bs, ok.bsz, ok.noex, ok.exfs, ok.funs, ok.frf⟩
theorem Cx.Ok.unwish {X : Cx} {E : Value → Shared → Prop} (ok : (X.wish E).Ok) : X.Ok :=
  ⟨ok.mod, ok.kind, ok.glob, ok.blt, ok.above, ok.inj, ok.has, ok.cab, ok.hd, ok.frames, ok.stk, ok.exf, ok.bs, ok.bsz, ok.noex, ok.exfs, ok.funs, ok.frf⟩
section
variable {X : Cx} {pins : List (Addr × Obj)} {σ : St} {H : Hp} {s : Shared} {E : Value → Shared → Prop}
theorem Inv.wish (I : Inv X pins σ H s) (E : Value → Shared → Prop) : Inv (X.wish E) pins σ H s := ⟨I.ok.wish E, I.os, I.bare, I.base, I.loc, I.cell, I.free, I.freeC, I.pin, I.hok, I.len⟩
theorem Inv.unwish (I : Inv (X.wish E) pins σ H s) : Inv X pins σ H s := ⟨I.ok.unwish, I.os, I.bare, I.base, I.loc, I.cell, I.free, I.freeC, I.pin, I.hok, I.len⟩
theorem SP.unwish {D : Ends} {f : Flow} {s' : Shared} (h : SP (X.wish E) pins D f s') : SP X pins D f s' := by
  cases f with
  | next => obtain ⟨σ', H', I, q⟩ := h; exact ⟨σ', H', I.unwish, q⟩
  | brk => obtain ⟨σ', H', I, q⟩ := h; exact ⟨σ', H', I.unwish, q⟩
  | cont => obtain ⟨σ', H', I, q⟩ := h; exact ⟨σ', H', I.unwish, q⟩
  | ret u => obtain ⟨v, σ', H', I, r, q⟩ := h; exact ⟨v, σ', H', I.unwish, r, q⟩
theorem PSs.nox {st : List Stmt} {t : TS} (h : PSs X.nox st t) : PSs X st t := fun pins s σ H D I hw =>
  wpAny_mono (h pins s σ H D (I.wish _) hw) (fun _ _ q => q.unwish) fun _ _ z => False.elim z
end

/-! ### blocks and small statements -/
section
variable {X : Cx} {st : Stmt} {rest : List Stmt} {t u : TS} {e : Expr} {te : TE} {pos : Pos}
def tNext : TS := fun D σ H => D.nx σ H
def tSeq (t u : TS) : TS := fun D σ H => t { D with nx := u D } σ H
theorem pss_nil : PSs X [] tNext := fun _ _ σ H _ I h => wpAny_execs_nil ⟨σ, H, I, h⟩
theorem pss_cons (h1 : PS X st t) (h2 : PSs X rest u) : PSs X (st :: rest) (tSeq t u) := by
  intro pins s σ H D I h
  refine wpAny_execs_cons (thn (h1 pins s σ H { D with nx := u D } I h) fun f s1 q => ?_)
  cases f with
  | next =>
    obtain ⟨σ', H', I', q⟩ := q
    exact h2 pins s1 σ' H' D I' q
  | ret v => exact q
  | brk => exact q
  | cont => exact q
theorem pss_one (h1 : PS X st t) : PSs X [st] t := by
  intro pins s σ H D I h
  refine wpAny_execs_cons (thn (h1 pins s σ H D I h) fun f s1 q => ?_)
  cases f with
  | next => exact wpAny_execs_nil q
  | ret v => exact q
  | brk => exact q
  | cont => exact q
/-- in a def's body nothing is shown -/
theorem Inv.quiet {pins : List (Addr × Obj)} {σ : St} {H : Hp} {s : Shared} (I : Inv X pins σ H s) : interactive X.env = false := by simp [interactive, I.ok.kind]
/-- an expression whose value is dropped -/
def tDrop (te : TE) : TS := fun D σ H => te σ H fun _ H1 => D.nx σ H1
theorem ps_expr (he : PE X e te) (hs : swapsWith e none pos.line X.env = pure false := by rfl) : PS X (.Expr e pos) (tDrop te) := by
  intro pins s σ H D I h
  exact wpAny_Expr_any (thn (he pins s σ H _ I h) fun v s1 ⟨x, H1, I1, r1, q1⟩ => ⟨σ, H1, I1, q1⟩) I.quiet hs
def tRet (te : TE) : TS := fun D σ H => te σ H D.rt
theorem ps_ret (he : PE X e te) : PS X (.Return (some e) pos) (tRet te) := by
  intro pins s σ H D I h
  exact wpAny_Return_some (thn (he pins s σ H _ I h) fun v s1 ⟨x, H1, I1, r1, q1⟩ => ⟨x, σ, H1, I1, r1, q1⟩)
def tIfS (c : TT) (t u : TS) : TS := fun D σ H => c σ H fun b H1 => if b = true then t D σ H1 else u D σ H1
theorem ps_if {c : Expr} {a b : List Stmt} {tc : TT} (hc : PT X c tc) (ha : PSs X a t) (hb : PSs X b u) : PS X (.If c a b pos) (tIfS tc t u) := by
  intro pins s σ H D I h
  refine wpAny_If (thn (hc pins s σ H _ I h) fun d s1 ⟨H1, I1, q1⟩ => ?_)
  cases d with
  | true => exact ha pins s1 σ H1 D I1 q1
  | false => exact hb pins s1 σ H1 D I1 q1
end

/-! ### targets -/
abbrev TG := V → St → Hp → (St → Hp → Prop) → Prop
abbrev TGs := List V → St → Hp → (St → Hp → Prop) → Prop
def PG (X : Cx) (target : Expr) (t : TG) : Prop :=
  ∀ (pins : List (Addr × Obj)) (s : Shared) (σ : St) (H : Hp) (v : V) (u : Value) (Q : St → Hp → Prop), Inv X pins σ H s → RelV v u → t v σ H Q →
    wpAny (model X.prog X.w) X.A (assign target X.env u) (fun _ s' => NxP X pins Q s') X.xe s
/-- several targets, one after another -/
def PGs (X : Cx) (ts : List Expr) (t : TGs) : Prop :=
  ∀ (pins : List (Addr × Obj)) (s : Shared) (σ : St) (H : Hp) (vs : List V) (us : List Value) (Q : St → Hp → Prop), Inv X pins σ H s → Vals vs us → t vs σ H Q →
    wpAny (model X.prog X.w) X.A (assignInOrder ((assignEach ts X.env).map (·.2)) us) (fun _ s' => NxP X pins Q s') X.xe s
section
variable {X : Cx} {pos : Pos}
def gName (i : Nat) : TG := fun v σ H Q => Q (σ.set i (some v)) H
theorem pg_name {i : Nat} {x : Str} (hN : X.N.Nodup) (hi : X.N[i]? = some x) (hx : Loc X.env.scope x) (hf : X.fn x = true ∨ X.env.scope.names.lookup x = some .local := by first | exact .inl rfl | exact .inr rfl | assumption) : PG X (.Name x pos) (gName i) := by
  intro pins s σ H v u Q I r h
  exact wpAny_assign_Name (store_ok I hN hi hx r (fun s' I' => ⟨_, H, I', h⟩) hf)
def gNil : TGs := fun vs σ H Q => vs = [] ∧ Q σ H
inductive CnsP (t : TG) (u : TGs) (vs : List V) (σ : St) (H : Hp) (Q : St → Hp → Prop) : Prop
  | mk (v : V) (r : List V) (e : vs = v :: r) (q : t v σ H fun σ' H' => u r σ' H' Q) : CnsP t u vs σ H Q
def gCons (t : TG) (u : TGs) : TGs := fun vs σ H Q => CnsP t u vs σ H Q
theorem pgs_nil : PGs X [] gNil := by
  intro pins s σ H vs us Q I r h
  obtain ⟨e, h⟩ := h
  subst e
  cases r
  exact assignInOrder_nil ⟨σ, H, I, h⟩
theorem pgs_cons {e : Expr} {es : List Expr} {t : TG} {u : TGs} (h1 : PG X e t) (h2 : PGs X es u)
    (hs : (assignEach (e :: es) X.env).map (·.2) = assign e X.env :: (assignEach es X.env).map (·.2) := by rfl) : PGs X (e :: es) (gCons t u) := by
  intro pins s σ H vs us Q I r h
  obtain ⟨v, vr, e1, h⟩ := h
  subst e1
  cases r with
  | cons r rr =>
    rw [hs]
    refine assignInOrder_cons (thn (h1 pins s σ H _ _ _ I r h) fun _ s1 ⟨σ1, H1, I1, q1⟩ => ?_)
    exact h2 pins s1 σ1 H1 _ _ Q I1 rr q1
/-- (a, b, ..) = a tuple of that length -/
inductive GTpP (K : PySem.W.Frag) (n : Nat) (t : TGs) (v : V) (σ : St) (H : Hp) (Q : St → Hp → Prop) : Prop
  | mk (a : Addr) (xs : List V) (e : v = .ref a) (h : SqT K H a xs) (l : xs.length = n) (q : t xs σ H Q) : GTpP K n t v σ H Q
def gTup (K : PySem.W.Frag) (n : Nat) (t : TGs) : TG := fun v σ H Q => GTpP K n t v σ H Q
theorem pg_tup {es : List Expr} {k : Nat} {t : TGs} {n : Nat} (hc : X.calm = true) (h : PGs X es t)
    (hn : (assignEach es X.env).length = n := by rfl) (hst : (assignEach es X.env).findIdx? (·.1) = none := by rfl) : PG X (.Tuple es k pos) (gTup X.K n t) := by
  intro pins s σ H v u Q I r hw
  obtain ⟨a, xs, e1, hq, hl, hw⟩ := hw
  subst e1
  cases r
  obtain ⟨its, rv, ht, hz⟩ := I.tuple hq
  refine assign_Tuple_tuple (I.ok.hd hc) ht (by simp [hn, ← hl, rv.length]) hst fun h' hx => ?_
  have I1 : Inv X pins σ H { s with heap := h' } := I.kept (t' := s.toks) fun b o e => hx b o (Nat.ne_of_lt (Heap.lt_size e)) e
  exact h pins _ σ H xs _ Q I1 (by simpa using rv) hw
/-- target = value -/
def tAsg (te : TE) (g : TG) : TS := fun D σ H => te σ H fun x H1 => g x σ H1 D.nx
/-- name = value -/
theorem ps_set {i : Nat} {x : Str} {e : Expr} {te : TE} {pos' : Pos} (hN : X.N.Nodup) (hi : X.N[i]? = some x) (hx : Loc X.env.scope x) (he : PE X e te) (hs : swapsWith e (some (.Name x pos')) pos.line X.env = pure false := by rfl) (hf : X.fn x = true ∨ X.env.scope.names.lookup x = some .local := by first | exact .inl rfl | exact .inr rfl | assumption) :
    PS X (.Assign [.Name x pos'] e pos) (tAsg te (gName i)) := by
  intro pins s σ H D I h
  refine wpAny_Assign_Name (thn (he pins s σ H _ I h) fun v s1 ⟨y, H1, I1, r1, q1⟩ => ?_) hs
  exact store_ok I1 hN hi hx r1 (fun s2 I2 => ⟨_, H1, I2, q1⟩) hf
end

/-! ### while -/
section
variable {X : Cx} {pos : Pos}
/-- the invariant W with its measure -/
def tWhile (c : TT) (tb : TS) : TS := fun D σ H => ∃ W : Nat → St → Hp → Prop, (∃ m, W m σ H) ∧ ∀ m σ H, W m σ H →
  c σ H fun b H1 => if b = true then ∃ N : St → Hp → Prop, (∀ σ' H', N σ' H' → ∃ m', m' < m ∧ W m' σ' H') ∧ tb { D with nx := N, ct := N, bk := D.nx } σ H1 else D.nx σ H1
theorem ps_while {c : Expr} {body : List Stmt} {tc : TT} {tb : TS} (hp : PassesOwn (model X.prog X.w) X.A X.env X.xe) (hc : PT X c tc) (hb : PSs X body tb) : PS X (.While c body [] pos) (tWhile tc tb) := by
  intro pins s σ H D I h
  obtain ⟨W, ⟨m0, w0⟩, turn⟩ := h
  refine wpAny_While (codeAny_whileLoop (fun n s' => ∃ σ' H', Inv X pins σ' H' s' ∧ W n σ' H') ?_ m0 ⟨σ, H, I, w0⟩)
  rintro n s1 ⟨σ1, H1, I1, w1⟩
  refine wpAny_passesOwn hp (thn (hc pins s1 σ1 H1 _ I1 (turn n σ1 H1 w1)) fun b s2 ⟨H2, I2, q2⟩ => ?_)
  cases b with
  | true =>
    obtain ⟨N, hN, q2⟩ := q2
    rw [if_pos rfl]
    refine wpAny_passesOwn hp (thn (hb pins s2 σ1 H2 _ I2 q2) fun f s3 q3 => ?_)
    cases f with
    | next =>
      obtain ⟨σ3, H3, I3, n3⟩ := q3
      obtain ⟨m', hm, w3⟩ := hN σ3 H3 n3
      exact ⟨m', hm, σ3, H3, I3, w3⟩
    | cont =>
      obtain ⟨σ3, H3, I3, n3⟩ := q3
      obtain ⟨m', hm, w3⟩ := hN σ3 H3 n3
      exact ⟨m', hm, σ3, H3, I3, w3⟩
    | brk => exact q3
    | ret v => exact q3
  | false =>
    rw [if_neg Bool.false_ne_true]
    exact wpAny_execs_nil ⟨σ1, H2, I2, q2⟩
end

/-! ### what a loop or a comprehension walks -/
/-- at turn i: it yields x (the heap may grow), or it stops -/
structure It where
  go : Nat → Hp → Prop
  yld : Nat → Hp → V → Hp → Prop
  stop : Nat → Hp → Prop
/-- the iterator's own objects may turn: they are not the frame's, not pinned, younger than the entry (or a comprehension's own) -/
def FpOk (X : Cx) (pins : List (Addr × Obj)) (H : Hp) (b : Addr) : Prop :=
  H b = none ∧ b ≠ X.env.locals ∧ b ∉ X.fs ∧ (b ∈ X.ex ∨ X.s_0.heap.objs.size ≤ b) ∧ (∀ x c, X.env.cells.lookup x = some c → c ≠ b) ∧ ∀ p ∈ X.pn ++ pins, p.1 ≠ b
theorem Inv.fpOk {X : Cx} {pins : List (Addr × Obj)} {σ : St} {H H' : Hp} {s : Shared} {b : Addr} (I : Inv X pins σ H s) (hb : s.heap.objs.size ≤ b) (hn : H' b = none) : FpOk X pins H' b := by
  refine ⟨hn, Nat.ne_of_gt (Nat.lt_of_lt_of_le I.lt hb), I.nofs hb, .inr (Nat.le_trans I.sz hb), fun x c e z => ?_, fun p hp z => ?_⟩
  · obtain ⟨v, q⟩ := I.cell x c e
    exact absurd (Nat.lt_of_lt_of_le q.lt (by rw [z]; exact hb)) (Nat.lt_irrefl _)
  · exact absurd (Nat.lt_of_lt_of_le (Heap.lt_size (I.pin p hp).1) (by rw [z]; exact hb)) (Nat.lt_irrefl _)
inductive YdP (X : Cx) (pins : List (Addr × Obj)) (σ : St) (J : It) (fp : List Addr) (tn : Nat → Heap → Prop) (i : Nat) (H : Hp) (u : Value) (s2 : Shared) : Prop
  | mk (x : V) (H' : Hp) (I : Inv X pins σ H' s2) (r : RelV x u) (y : J.yld i H x H') (n : tn (i + 1) s2.heap) (f : ∀ b ∈ fp, H' b = none) : YdP X pins σ J fp tn i H u s2
structure Turn (P : Program) (w : World) (K : PySem.W.Frag) (tg : Expr) (J : It) (fp : List Addr) (it : Addr) (tn : Nat → Heap → Prop) : Prop where
  mem : it ∈ fp
  obj : ∀ i h, tn i h → ∀ b ∈ fp, ∃ o, h.get? b = some o ∧ ∀ v, o.data ≠ .cell v
  keep : ∀ i h h', tn i h → (∀ b ∈ fp, ∀ o, h.get? b = some o → h'.get? b = some o) → tn i h'
  item : ∀ (X : Cx), X.prog = P → X.w = w → X.K = K → X.calm = true → ∀ (i : Nat) (pins : List (Addr × Obj)) (s : Shared) (σ : St) (H : Hp) (E : Value → Shared → Prop), Inv X pins σ H s → (∀ b ∈ fp, FpOk X pins H b) → tn i s.heap → J.go i H →
    wpAny (model P w) X.A (pyNext (.ref it)) (fun r s1 => ∃ u, r = some u ∧
      wpAny (model P w) X.A (letOwnedTupleGo tg (.ref it) u) (fun _ s2 => YdP X pins σ J fp tn i H u s2) E s1) E s
  done : ∀ (X : Cx), X.prog = P → X.w = w → X.K = K → X.calm = true → ∀ (i : Nat) (pins : List (Addr × Obj)) (s : Shared) (σ : St) (H : Hp) (E : Value → Shared → Prop), Inv X pins σ H s → (∀ b ∈ fp, FpOk X pins H b) → tn i s.heap → J.stop i H →
    wpAny (model P w) X.A (pyNext (.ref it)) (fun r s1 => r = none ∧ Inv X pins σ H s1) E s
  self : ∀ (A : Around) (i : Nat) (s : Shared) (Q : Value → Shared → Prop) (E : Value → Shared → Prop), tn i s.heap → Q (.ref it) s → wpAny (model P w) A (pyIter (.ref it)) Q E s
abbrev TI := St → Hp → (It → Hp → Prop) → Prop
/-- an iterator has come -/
inductive PIE (X : Cx) (pins : List (Addr × Obj)) (σ : St) (tg : Expr) (R : It → Hp → Prop) (itv : Value) (s2 : Shared) : Prop
  | mk (it : Addr) (fp : List Addr) (tn : Nat → Heap → Prop) (J : It) (H' : Hp) (e : itv = .ref it) (I : Inv X pins σ H' s2) (T : Turn X.prog X.w X.K tg J fp it tn) (n : tn 0 s2.heap) (f : ∀ b ∈ fp, FpOk X pins H' b) (r : R J H') : PIE X pins σ tg R itv s2
def PI (X : Cx) (tg iter : Expr) (wi : TI) : Prop :=
  ∀ (pins : List (Addr × Obj)) (s : Shared) (σ : St) (H : Hp) (R : It → Hp → Prop), Inv X pins σ H s → wi σ H R →
    wpAny (model X.prog X.w) X.A (eval iter X.env) (fun v s1 => wpAny (model X.prog X.w) X.A (pyIter v) (PIE X pins σ tg R) X.xe s1) X.xe s

/-- the step ahead of the store is nothing for an iterator that keeps no tuple -/
theorem go_of {M : Model} {A : Around} {E : Value → Shared → Prop} {s : Shared} {tg : Expr} {it : Addr} {u : Value} {o : Obj} {n : String} {vs : Array Value} {Q : Unit → Shared → Prop} (ho : s.heap.get? it = some o) (hc : o.cls = .type n) (hd : o.data = .fields vs)
    (hn : ["enumerate", "zip", "dict_itemiterator", "dict_reverseitemiterator", "odict_iterator", "itertools.zip_longest", "itertools.pairwise"].contains n = false) (hQ : Q () s) : wpAny M A (letOwnedTupleGo tg (.ref it) u) Q E s := by
  unfold letOwnedTupleGo
  cases tg <;> first
    | exact wpAny_pure hQ
    | (cases u <;> first
        | exact wpAny_pure hQ
        | (refine wpAny_bind (wpAny_load ho ?_)
           rw [hc, hd]
           show wpAny M A (if (["enumerate", "zip", "dict_itemiterator", "dict_reverseitemiterator", "odict_iterator", "itertools.zip_longest", "itertools.pairwise"].contains n && vs[0]? == some (rawInt _)) = true then _ else _) Q E s
           rw [if_neg (by intro h; rw [hn, Bool.false_and] at h; cases h)]
           exact wpAny_pure hQ))

/-- the list at a, as it stands at each turn (a loop may append to it) -/
def Itl (K : PySem.W.Frag) (a : Addr) : It :=
  ⟨fun i H => ∃ xs x, SqL K H a xs ∧ xs[i]? = some x, fun i H x H' => H' = H ∧ ∀ xs, SqL K H a xs → xs[i]? = some x, fun i H => ∃ xs, SqL K H a xs ∧ xs.length ≤ i⟩
/-- lo, lo + 1, .. (n of them) -/
def Itr (lo : Int) (n : Nat) : It := ⟨fun i _ => i < n, fun i H x H' => H' = H ∧ x = .int (lo + i), fun i _ => n ≤ i⟩
theorem turn_list {P : Program} {w : World} {K : PySem.W.Frag} {tg : Expr} (a it : Addr) : Turn P w K tg (Itl K a) [it] it (fun i h => h.IsListIter it a i) where
  mem := by simp
  obj := fun i h st b hb => by
    have e : b = it := by simpa using hb
    subst e
    obtain ⟨o, e, c, d⟩ := st
    exact ⟨o, e, fun v z => by rw [d] at z; cases z⟩
  keep := fun i h h' st k => st.at fun o e => k it (by simp) o e
  item := by
    intro X hP hw hK hc i pins s σ H E I hf st hg
    subst hP hw hK
    obtain ⟨xs, x, hq, hx⟩ := hg
    obtain ⟨its, rv, p, hz⟩ := I.list hq
    obtain ⟨u, hu, ru⟩ := rv.get hx
    obtain ⟨f0, f1, f2, f3, f4, f5⟩ := hf it (by simp)
    refine wpAny_pyNext_list_item st p.isList (x := u) (by simpa using hu) fun h' st' sb => ?_
    have I1 : Inv X pins σ H { s with heap := h' } := I.turned (t' := s.toks) (fun b o hb e => (sb.2 b hb).trans e) f0 f1 f3 f4 f5
    obtain ⟨o, e, c, d⟩ := id st'
    exact ⟨u, rfl, go_of (s := { s with heap := h' }) e c d (by decide) ⟨x, H, I1, ru, ⟨rfl, fun ys hy => by rw [I.list_inj hy hq]; exact hx⟩, st', fun b hb => (hf b hb).1⟩⟩
  done := by
    intro X hP hw hK hc i pins s σ H E I hf st hg
    subst hP hw hK
    obtain ⟨xs, hq, hx⟩ := hg
    obtain ⟨its, rv, p, hz⟩ := I.list hq
    obtain ⟨f0, f1, f2, f3, f4, f5⟩ := hf it (by simp)
    have hl := rv.length
    exact wpAny_pyNext_list_end (I.ok.hd hc) st p.isList (by simp; omega) fun h' eb => ⟨rfl, I.turned (t' := s.toks) (fun b o hb e => eb b o hb e) f0 f1 f3 f4 f5⟩
  self := fun _ _ _ _ _ st h => wpAny_pyIter_listiter st h
theorem turn_range {P : Program} {w : World} {K : PySem.W.Frag} {tg : Expr} (it : Addr) (lo : Int) (n : Nat) : Turn P w K tg (Itr lo n) [it] it (fun i h => IsRangeIter h it (lo + (i : Nat) * 1) ((n : Int) - (i : Nat)) 1) where
  mem := by simp
  obj := fun i h st b hb => by
    have e : b = it := by simpa using hb
    subst e
    exact ⟨_, st, fun v z => by
      have z' : Data.fields _ = Data.cell v := z
      cases z'⟩
  keep := fun i h h' st k => k it (by simp) _ st
  item := by
    intro X hP hw hK hc i pins s σ H E I hf st hg
    subst hP hw hK
    obtain ⟨f0, f1, f2, f3, f4, f5⟩ := hf it (by simp)
    have W := Walks.range (prog := X.prog) (w := X.w) (I.ok.hd hc) it lo 1 n
    refine W.item i s _ _ hg st fun v h' tk hv st' kk => ?_
    obtain ⟨t, rfl⟩ := hv
    have I1 : Inv X pins σ H { s with heap := h', toks := tk } := I.turned (fun b o hb e => kk b o (by simpa using hb) e) f0 f1 f3 f4 f5
    refine ⟨_, rfl, go_of (s := { s with heap := h', toks := tk }) (n := "range_iterator") st' rfl rfl (by decide) ⟨.int (lo + i), H, I1, ⟨t, ?_⟩, ⟨rfl, rfl⟩, st', fun b hb => (hf b hb).1⟩⟩
    rw [Int.mul_one]
  done := by
    intro X hP hw hK hc i pins s σ H E I hf st hg
    subst hP hw hK
    obtain ⟨f0, f1, f2, f3, f4, f5⟩ := hf it (by simp)
    exact wpAny_pyNext_range_end (I.ok.hd hc) st (by have : n ≤ i := hg; omega) fun h' eb => ⟨rfl, I.turned (t' := s.toks) (fun b o hb e => eb b o hb e) f0 f1 f3 f4 f5⟩
  self := fun _ _ _ _ _ st h => wpAny_pyIter_rangeiter st h
end L2

namespace L2
open PySem PySem.Spec PyProof.Rows
section
variable {X : Cx} {tg : Expr}
inductive LstP (K : PySem.W.Frag) (x : V) (H : Hp) (R : It → Hp → Prop) : Prop
  | mk (a : Addr) (e : x = .ref a) (h : ∃ xs, SqL K H a xs) (q : R (Itl K a) H) : LstP K x H R
def iList (K : PySem.W.Frag) (tl : TE) : TI := fun σ H R => tl σ H fun x H1 => LstP K x H1 R
theorem pi_list {l : Expr} {tl : TE} (hl : PE X l tl) : PI X tg l (iList X.K tl) := by
  intro pins s σ H R I h
  refine thn (hl pins s σ H _ I h) fun v s1 ⟨x, H1, I1, r1, q1⟩ => ?_
  obtain ⟨a, e, ⟨xs, hq⟩, q⟩ := q1
  subst e
  cases r1
  obtain ⟨its, rv, p, hz⟩ := I1.list hq
  refine wpAny_pyIter_list p.isList ?_
  refine ⟨s1.heap.objs.size, [s1.heap.objs.size], _, _, H1, rfl, I1.kept (t' := s1.toks) fun b o e => Heap.get?_push_of_some _ e, turn_list a _, ⟨_, Heap.get?_push_size _ rfl, rfl, rfl⟩, fun b hb => ?_, q⟩
  have e : b = s1.heap.objs.size := by simpa using hb
  subst e
  exact I1.fpOk (Nat.le_refl _) (I1.hok.fresh (Nat.le_refl _))
/-- a range object just made, walked -/
theorem range_it {pins : List (Addr × Obj)} {σ : St} {H : Hp} {s : Shared} {R : It → Hp → Prop} {E : Value → Shared → Prop} {lo hi : Int} {t u v : Tok} {tk : Nat} (I : Inv X pins σ H s) (h1 : -(2 ^ 62) ≤ lo) (h2 : lo < 2 ^ 62) (h3 : -(2 ^ 62) ≤ hi) (h4 : hi < 2 ^ 62)
    (q : R (Itr lo (hi - lo).toNat) H) : wpAny (model X.prog X.w) X.A (pyIter (.ref s.heap.objs.size)) (PIE X pins σ tg R) E { s with heap := s.heap.push { cls := .type "range", data := .fields #[.int lo t, .int hi u, .int 1 v] }, toks := tk } := by
  refine wpAny_pyIter_range (IsRange.new ..) (small_one h1 h2 h3 h4) ?_
  have I1 : Inv X pins σ H { s with heap := s.heap.push { cls := .type "range", data := .fields #[.int lo t, .int hi u, .int 1 v] }, toks := tk } := I.kept fun b o e => Heap.get?_push_of_some _ e
  refine ⟨(s.heap.push { cls := .type "range", data := .fields #[.int lo t, .int hi u, .int 1 v] }).objs.size, [(s.heap.push { cls := .type "range", data := .fields #[.int lo t, .int hi u, .int 1 v] }).objs.size], _, _, H, rfl,
    I1.kept (t' := tk) fun b o e => Heap.get?_push_of_some _ e, turn_range _ lo (hi - lo).toNat, ?_, fun b hb => ?_, q⟩
  · have e1 : lo + ((0 : Nat) : Int) * 1 = lo := by simp
    have e2 : (((hi - lo).toNat : Nat) : Int) - ((0 : Nat) : Int) = Builtin.Range.rangeSize lo hi 1 := by rw [rangeSize_one]; split <;> omega
    show IsRangeIter _ _ (lo + ((0 : Nat) : Int) * 1) ((((hi - lo).toNat : Nat) : Int) - ((0 : Nat) : Int)) 1
    rw [e1, e2]
    exact Heap.get?_push_size _ rfl
  · have e : b = (s.heap.push { cls := .type "range", data := .fields #[.int lo t, .int hi u, .int 1 v] }).objs.size := by simpa using hb
    subst e
    exact I1.fpOk (Nat.le_refl _) (I1.hok.fresh (Nat.le_refl _))
inductive Rg1P (vs : List V) (H : Hp) (R : It → Hp → Prop) : Prop
  | mk (j : Int) (e : vs = [.int j]) (h : -(2 ^ 62) ≤ j) (h2 : j < 2 ^ 62) (q : R (Itr 0 j.toNat) H) : Rg1P vs H R
def iRng1 (ta : TA) : TI := fun σ H R => ta σ H fun vs H1 => Rg1P vs H1 R
inductive Rg2P (vs : List V) (H : Hp) (R : It → Hp → Prop) : Prop
  | mk (i j : Int) (e : vs = [.int i, .int j]) (h : -(2 ^ 62) ≤ i ∧ i < 2 ^ 62 ∧ -(2 ^ 62) ≤ j ∧ j < 2 ^ 62) (q : R (Itr i (j - i).toNat) H) : Rg2P vs H R
def iRng2 (ta : TA) : TI := fun σ H R => ta σ H fun vs H1 => Rg2P vs H1 R
theorem pi_range1 {a : Expr} {ta : TA} {p pos : Pos} (hg : Gl X "range") (hm : X.mg "range" = none) (ha : PA X [a] ta) (hs : starEach [a] X.env = [(false, eval a X.env)] := by rfl) : PI X tg (.Call (.Name "range" p) [a] [] pos) (iRng1 ta) := by
  intro pins s σ H R I h
  refine Call_ (ld_blt I hg hm boot_range (PyProof.Rows.callWith_type1 (thn (ha pos pins s σ H _ I h) fun us s1 ⟨vs, H1, I1, r1, q1⟩ => ?_) hs rfl))
  obtain ⟨j, e, q1, q2, q⟩ := q1
  subst e
  cases r1 with
  | cons r rr =>
    cases rr
    obtain ⟨t, rfl⟩ := r
    exact call_range_1 (range_it I1 (by omega) (by omega) q1 q2 (by simpa using q))
theorem pi_range2 {a b : Expr} {ta : TA} {p pos : Pos} (hg : Gl X "range") (hm : X.mg "range" = none) (ha : PA X [a, b] ta) (hs : starEach [a, b] X.env = [(false, eval a X.env), (false, eval b X.env)] := by rfl) (hs2 : starEach [b] X.env = [(false, eval b X.env)] := by rfl) :
    PI X tg (.Call (.Name "range" p) [a, b] [] pos) (iRng2 ta) := by
  intro pins s σ H R I h
  refine Call_ (ld_blt I hg hm boot_range (PyProof.Rows.callWith_type1 (thn (ha pos pins s σ H _ I h) fun us s1 ⟨vs, H1, I1, r1, q1⟩ => ?_) (by rw [hs, hs2]) (by rw [hs2]; rfl)))
  obtain ⟨i, j, e, ⟨q1, q2, q3, q4⟩, q⟩ := q1
  subst e
  cases r1 with
  | cons r rr =>
    cases rr with
    | cons r' rr =>
      cases rr
      obtain ⟨t, rfl⟩ := r
      obtain ⟨t', rfl⟩ := r'
      exact call_range_2 (range_it I1 q1 q2 q3 q4 q)

/-! ### for -/
/-- W: the invariant by the turn and a measure; N: what the body is to reach -/
def tFor (wi : TI) (g : TG) (tb : TS) : TS := fun D σ H => wi σ H fun J H1 => ∃ W : Nat → Nat → St → Hp → Prop, (∃ m, W 0 m σ H1) ∧ ∀ i m σ H, W i m σ H →
  (J.stop i H ∧ D.nx σ H) ∨ (J.go i H ∧ ∃ N : St → Hp → Prop, (∀ σ' H', N σ' H' → ∃ m', m' < m ∧ W (i + 1) m' σ' H') ∧ ∀ x H', J.yld i H x H' → g x σ H' fun σ2 H2 => tb { D with nx := N, ct := N, bk := D.nx } σ2 H2)
/-- the records at fp as they stand -/
def pinsAt (fp : List Addr) (h : Heap) : List (Addr × Obj) := fp.filterMap fun b => (h.get? b).map fun o => (b, o)
theorem mem_pinsAt {fp : List Addr} {h : Heap} {b : Addr} {o : Obj} (hb : b ∈ fp) (e : h.get? b = some o) : (b, o) ∈ pinsAt fp h := List.mem_filterMap.mpr ⟨b, hb, by rw [e]; rfl⟩
theorem of_pinsAt {fp : List Addr} {h : Heap} {p : Addr × Obj} (hp : p ∈ pinsAt fp h) : p.1 ∈ fp ∧ h.get? p.1 = some p.2 := by
  obtain ⟨b, hb, e⟩ := List.mem_filterMap.mp hp
  cases q : h.get? b with
  | none => rw [q] at e; cases e
  | some o =>
    rw [q] at e
    have e' : (b, o) = p := Option.some.inj e
    subst e'
    exact ⟨hb, q⟩
theorem Inv.pinned {pins : List (Addr × Obj)} {σ : St} {H : Hp} {s : Shared} {fp : List Addr} (I : Inv X pins σ H s) (hf : ∀ b ∈ fp, FpOk X pins H b) (ho : ∀ b ∈ fp, ∃ o, s.heap.get? b = some o ∧ ∀ v, o.data ≠ .cell v) : Inv X (pins ++ pinsAt fp s.heap) σ H s :=
  I.pins_of fun p hp => (List.mem_append.mp hp).elim (fun z => I.pin p (List.mem_append_right _ z)) fun z => by
    obtain ⟨hb, e⟩ := of_pinsAt z
    obtain ⟨f0, f1, f2, _⟩ := hf p.1 hb
    obtain ⟨o, e', d⟩ := ho p.1 hb
    rw [e] at e'; cases e'
    exact ⟨e, f0, f1, f2, d⟩
theorem Inv.unpinned {pins pl : List (Addr × Obj)} {σ : St} {H : Hp} {s : Shared} (I : Inv X (pins ++ pl) σ H s) : Inv X pins σ H s := I.pins_of fun p hp => I.pin p (List.mem_append_right _ (List.mem_append_left _ hp))
inductive LpI (X : Cx) (pins : List (Addr × Obj)) (fp : List Addr) (tn : Nat → Heap → Prop) (W : Nat → Nat → St → Hp → Prop) (n : Nat) (s' : Shared) : Prop
  | mk (i : Nat) (σ' : St) (H' : Hp) (I : Inv X pins σ' H' s') (t : tn i s'.heap) (f : ∀ b ∈ fp, H' b = none) (w : W i n σ' H') : LpI X pins fp tn W n s'
theorem ps_for {iter : Expr} {body : List Stmt} {wi : TI} {g : TG} {tb : TS} {pos : Pos} (hp : PassesOwn (model X.prog X.w) X.A X.env X.xe) (hc : X.calm = true) (hi : PI X tg iter wi) (hg : PG X tg g) (hb : PSs X body tb)
    (hs : ∀ x, foldedSetIterable iter X.env x = pure x := by intro _; rfl) : PS X (.For tg iter body [] pos) (tFor wi g tb) := by
  intro pins s σ H D I h
  refine wpAny_For (thn (hi pins s σ H _ I h) fun v s1 h1 => thn h1 fun itv s2 h2 => ?_) hs
  obtain ⟨it, fp, tn, J, H2, e, I2, T, st2, f2, W, ⟨m0, w0⟩, turn⟩ := h2
  subst e
  -- what stays true of the iterator's objects through the loop
  have stat : ∀ {H' : Hp}, (∀ b ∈ fp, H' b = none) → ∀ b ∈ fp, FpOk X pins H' b := fun hn b hb => ⟨hn b hb, (f2 b hb).2⟩
  refine codeAny_forLoop_any (fun n s' => LpI X pins fp tn W n s') ?_ m0 ⟨0, σ, H2, I2, st2, fun b hb => (f2 b hb).1, w0⟩
  rintro n s3 ⟨i, σ3, H3, I3, st3, fr3, w3⟩
  rcases turn i n σ3 H3 w3 with ⟨stop, qn⟩ | ⟨go, N, hN, step⟩
  · refine wpAny_passesOwn hp (thn (T.done X rfl rfl rfl hc i pins s3 σ3 H3 X.xe I3 (stat fr3) st3 stop) fun r s4 ⟨hr, I4⟩ => ?_)
    subst hr
    exact wpAny_execs_nil ⟨σ3, H3, I4, qn⟩
  · refine wpAny_passesOwn hp (thn (T.item X rfl rfl rfl hc i pins s3 σ3 H3 X.xe I3 (stat fr3) st3 go) fun r s4 ⟨u, hr, h4⟩ => ?_)
    subst hr
    refine wpAny_passesOwn hp (thn h4 fun _ s5 ⟨x, H5, I5, r5, y5, st5, fr5⟩ => ?_)
    have I5' := I5.pinned (stat fr5) (T.obj _ _ st5)
    refine wpAny_passesOwn hp (thn (hg _ s5 σ3 H5 x u _ I5' r5 (step x H5 y5)) fun _ s6 ⟨σ6, H6, I6, q6⟩ => ?_)
    refine wpAny_passesOwn hp (thn (hb _ s6 σ6 H6 _ I6 q6) fun f s7 q7 => ?_)
    have again : ∀ {σ7 : St} {H7 : Hp}, Inv X (pins ++ pinsAt fp s5.heap) σ7 H7 s7 → N σ7 H7 → ∃ m, m < n ∧ LpI X pins fp tn W m s7 := fun {σ7 H7} I7 n7 => by
      obtain ⟨m', hm, w7⟩ := hN σ7 H7 n7
      refine ⟨m', hm, i + 1, σ7, H7, I7.unpinned, T.keep _ _ _ st5 fun b hb o e => (I7.pin (b, o) (List.mem_append_right _ (List.mem_append_right _ (mem_pinsAt hb e)))).1, fun b hb => ?_, w7⟩
      obtain ⟨o, e, d⟩ := T.obj _ _ st5 b hb
      exact (I7.pin (b, o) (List.mem_append_right _ (List.mem_append_right _ (mem_pinsAt hb e)))).2.1
    cases f with
    | next => obtain ⟨σ7, H7, I7, n7⟩ := q7; exact again I7 n7
    | cont => obtain ⟨σ7, H7, I7, n7⟩ := q7; exact again I7 n7
    | brk => obtain ⟨σ7, H7, I7, q7⟩ := q7; exact ⟨σ7, H7, I7.unpinned, q7⟩
    | ret v => obtain ⟨x7, σ7, H7, I7, r7, q7⟩ := q7; exact ⟨x7, σ7, H7, I7.unpinned, r7, q7⟩
end

/-! ### the forms one uses -/
/-- while, by a word and a measure of the state -/
theorem while_by {c : TT} {tb : TS} {D : Ends} {σ : St} {H : Hp} (Pv : St → Hp → Prop) (μ : St → Hp → Nat) (h0 : Pv σ H)
    (hs : ∀ σ H, Pv σ H → c σ H fun b H1 => if b = true then tb { D with nx := fun σ' H' => Pv σ' H' ∧ μ σ' H' < μ σ H, ct := fun σ' H' => Pv σ' H' ∧ μ σ' H' < μ σ H, bk := D.nx } σ H1 else D.nx σ H1)
    (mono : ∀ σ H Q Q', (∀ b H1, Q b H1 → Q' b H1) → c σ H Q → c σ H Q') : tWhile c tb D σ H := by
  refine ⟨fun m σ H => m = μ σ H ∧ Pv σ H, ⟨_, rfl, h0⟩, ?_⟩
  rintro m σ H ⟨rfl, p⟩
  refine mono σ H _ _ (fun b H1 q => ?_) (hs σ H p)
  cases b with
  | true => exact ⟨_, fun σ' H' ⟨p', l⟩ => ⟨_, l, rfl, p'⟩, q⟩
  | false => exact q
end L2

namespace L2
open PySem PySem.Spec PyProof.Rows

abbrev R2 := V → V → Hp → VK → Prop
/-- a two-place operation on values: f is binaryOp op, inplaceOp op or compareOp op -/
def OpR (X : Cx) (f : Value → Value → Sem Value) (r : R2) : Prop :=
  ∀ (pins : List (Addr × Obj)) (s : Shared) (σ : St) (H : Hp) (x y : V) (v u : Value) (Q : VK), Inv X pins σ H s → RelV x v → RelV y u → r x y H Q →
    wpAny (model X.prog X.w) X.A (f v u) (EP X pins σ Q) X.xe s
/-- a call of a value that is known (a builtin, a type) with values -/
def CallR (X : Cx) (f : Value) (r : List V → Hp → VK → Prop) : Prop :=
  ∀ (pins : List (Addr × Obj)) (s : Shared) (σ : St) (H : Hp) (xs : List V) (us : List Value) (Q : VK), Inv X pins σ H s → Vals xs us → r xs H Q →
    wpAny (model X.prog X.w) X.A (call f us) (EP X pins σ Q) X.xe s
/-- a value's truth -/
def TruR (X : Cx) (r : V → Hp → (Bool → Hp → Prop) → Prop) : Prop :=
  ∀ (pins : List (Addr × Obj)) (s : Shared) (σ : St) (H : Hp) (x : V) (v : Value) (Q : Bool → Hp → Prop), Inv X pins σ H s → RelV x v → r x H Q →
    wpAny (model X.prog X.w) X.A (truthy v) (TP X pins σ Q) X.xe s

def tOp (r : R2) (ta tb : TE) : TE := fun σ H Q => ta σ H fun x H1 => tb σ H1 fun y H2 => r x y H2 Q
def rI0 (g : Int → Int → V) : R2 := fun x y H Q => TwoP x y H fun i j H' => Q (g i j) H'

section
variable {X : Cx} {a b c : Expr} {ta tb tc : TE} {pos : Pos}

theorem binT (ha : PE X a ta) (hb : PE X b tb) {pins : List (Addr × Obj)} {s : Shared} {σ : St} {H : Hp} {R : V → V → Hp → Prop} (I : Inv X pins σ H s)
    (h : ta σ H fun x H1 => tb σ H1 fun y H2 => R x y H2) {Q : Value → Shared → Prop} {f : Value → Value → Sem Value}
    (hf : ∀ v u s2 x y H2, Inv X pins σ H2 s2 → RelV x v → RelV y u → R x y H2 → wpAny (model X.prog X.w) X.A (f v u) Q X.xe s2) :
    wpAny (model X.prog X.w) X.A (eval a X.env) (fun v s₁ => wpAny (model X.prog X.w) X.A (eval b X.env) (fun u s₂ => wpAny (model X.prog X.w) X.A (f v u) Q X.xe s₂) X.xe s₁) X.xe s := by
  refine thn (ha pins s σ H _ I h) fun v s1 ⟨x, H1, I1, r1, q1⟩ => ?_
  refine thn (hb pins s1 σ H1 _ I1 q1) fun u s2 ⟨y, H2, I2, r2, q2⟩ => ?_
  exact hf v u s2 x y H2 I2 r1 r2 q2

theorem pe_op {op : Operator} {r : R2} (ho : OpR X (binaryOp op) r) (ha : PE X a ta) (hb : PE X b tb) : PE X (.BinOp a op b pos) (tOp r ta tb) := by
  intro pins s σ H Q I h
  exact wpAny_BinOp (binT ha hb I h fun v u s2 x y H2 I2 rx ry q => ho pins s2 σ H2 x y v u Q I2 rx ry q)

/-! ### ints -/
theorem opI0 {f : Value → Value → Sem Value} {g : Int → Int → Int}
    (rule : ∀ (i j : Int) (t u : Tok) (s : Shared) (Q : Value → Shared → Prop) (E : Value → Shared → Prop), Q (.int (g i j) s.toks) { s with toks := s.toks + 1 } → wpAny (model X.prog X.w) X.A (f (.int i t) (.int j u)) Q E s) :
    OpR X f (rI0 fun i j => .int (g i j)) := by
  intro pins s σ H x y v u Q I rx ry h
  obtain ⟨i, j, rfl, rfl, q⟩ := h
  obtain ⟨t, rfl⟩ := rx
  obtain ⟨t', rfl⟩ := ry
  exact rule i j t t' s _ _ ⟨.int (g i j), H, I.tok _, ⟨_, rfl⟩, q⟩

theorem op_add : OpR X (binaryOp .Add) (rI0 fun i j => .int (i + j)) := opI0 fun _ _ _ _ _ _ _ q => add_int q
theorem op_sub : OpR X (binaryOp .Sub) (rI0 fun i j => .int (i - j)) := opI0 fun _ _ _ _ _ _ _ q => sub_int q

/-! ### bools among ints: n += (a < b) -/
end

/-! ### comparisons -/
/-- the scalars that == tells apart as data does -/
def scal : V → V → Bool
  | .non, .non => true | .non, .int _ => true | .int _, .non => true | .non, .bl _ => true | .bl _, .non => true | .non, .str _ => true | .str _, .non => true
  | .int _, .int _ => true | .bl _, .bl _ => true | .str _, .str _ => true | .byt _, .byt _ => true
  | .int _, .str _ => true | .str _, .int _ => true | .bl _, .str _ => true | .str _, .bl _ => true
  | _, _ => false
def rNe : R2 := fun x y H Q => scal x y = true ∧ Q (.bl (!decide (x = y))) H

theorem dec_int {i j : Int} : decide (V.int i = V.int j) = (i == j) := by
  rw [Bool.eq_iff_iff]
  simp
theorem dec_bl {i j : Bool} : decide (V.bl i = V.bl j) = (i == j) := by
  rw [Bool.eq_iff_iff]
  simp
theorem dec_str {i j : Str} : decide (V.str i = V.str j) = (i == j) := by
  rw [Bool.eq_iff_iff]
  simp
theorem dec_byt {i j : Array UInt8} : decide (V.byt i = V.byt j) = (i.toList == j.toList) := by
  rw [Bool.eq_iff_iff]
  cases i
  cases j
  simp

section
variable {X : Cx} {a b c : Expr} {ta tb tc : TE} {pos : Pos}
theorem fin_bl {pins : List (Addr × Obj)} {σ : St} {H : Hp} {s : Shared} {Q : VK} {k k' : Bool} (I : Inv X pins σ H s) (q : Q (.bl k) H) (e : k = k') : EP X pins σ Q (.bool k') s := by
  subst e
  exact ⟨.bl k, H, I, rfl, q⟩
theorem op_ne : OpR X (compareOp .NotEq) rNe := by
  intro pins s σ H x y v u Q I rx ry h
  obtain ⟨hs, q⟩ := h
  cases x with
  | non =>
    cases rx
    cases y with
    | non => cases ry; exact PySem.EqNone.ne_none_none (fin_bl I q (by simp))
    | bl j => cases ry; exact PySem.EqNone.ne_none_bool (fin_bl I q (by simp))
    | int j => obtain ⟨t', rfl⟩ := ry; exact PySem.EqNone.ne_none_int (fin_bl I q (by simp))
    | str j => obtain ⟨t', rfl⟩ := ry; exact PySem.EqNone.ne_none_str (fin_bl I q (by simp))
    | _ => exact absurd (show false = true from hs) Bool.false_ne_true
  | bl i =>
    cases rx
    cases y with
    | non => cases ry; exact PySem.EqNone.ne_bool_none (fin_bl I q (by simp))
    | bl j => cases ry; exact ne_bool (fin_bl I q (congrArg not dec_bl))
    | str j => obtain ⟨t', rfl⟩ := ry; exact PySem.EqMixed.ne_bool_str (fin_bl I q (by simp))
    | _ => exact absurd (show false = true from hs) Bool.false_ne_true
  | int i =>
    obtain ⟨t, rfl⟩ := rx
    cases y with
    | non => cases ry; exact PySem.EqNone.ne_int_none (fin_bl I q (by simp))
    | int j => obtain ⟨t', rfl⟩ := ry; exact ne_int (fin_bl I q (congrArg not dec_int))
    | str j => obtain ⟨t', rfl⟩ := ry; exact PySem.EqMixed.ne_int_str (fin_bl I q (by simp))
    | _ => exact absurd (show false = true from hs) Bool.false_ne_true
  | str i =>
    obtain ⟨t, rfl⟩ := rx
    cases y with
    | non => cases ry; exact PySem.EqNone.ne_str_none (fin_bl I q (by simp))
    | bl j => cases ry; exact PySem.EqMixed.ne_str_bool (fin_bl I q (by simp))
    | int j => obtain ⟨t', rfl⟩ := ry; exact PySem.EqMixed.ne_str_int (fin_bl I q (by simp))
    | str j => obtain ⟨t', rfl⟩ := ry; exact ne_str (fin_bl I q (congrArg not dec_str))
    | _ => exact absurd (show false = true from hs) Bool.false_ne_true
  | byt i =>
    obtain ⟨t, rfl⟩ := rx
    cases y with
    | byt j => obtain ⟨t', rfl⟩ := ry; exact PySem.W.ne_bytes (fin_bl I q (congrArg not dec_byt))
    | _ => exact absurd (show false = true from hs) Bool.false_ne_true
  | _ => cases y <;> exact absurd (show false = true from hs) Bool.false_ne_true

/-! ### truth -/
/-- a value's truth by the abstract heap -/
def TruV (K : PySem.W.Frag) (x : V) (H : Hp) (k : Bool) : Prop :=
  match x with
  | .non => k = false
  | .bl b => k = b
  | .int i => k = (i != 0)
  | .str y => y.length ≤ sizeLine ∧ k = ((y.length : Int) != 0)
  | .byt y => y.size ≤ sizeLine ∧ k = ((y.size : Int) != 0)
  | .ref p => (∃ xs, SqL K H p xs ∧ k = !xs.isEmpty) ∨ (∃ xs, SqT K H p xs ∧ k = !xs.isEmpty) ∨ ∃ kvs, H p = some (.dK kvs) ∧ k = !kvs.isEmpty
  | _ => False
theorem isEmpty_kv {κ : Type} {kvs : List (κ × V)} {vs : List (κ × Value)} (r : KV kvs vs) : (!vs.isEmpty) = !kvs.isEmpty := by
  cases r <;> rfl
theorem isEmpty_of {xs : List V} {its : List Value} (r : Vals xs its) : (!its.toArray.isEmpty) = !xs.isEmpty := by
  cases r <;> simp
theorem line63 : (sizeLine : Nat) < 2 ^ 63 := by rw [sizeLine_eq]; decide
theorem tru_ok : TruR X (fun x H Q => ∃ k, TruV X.K x H k ∧ Q k H) := by
  intro pins s σ H x v Q I rx h
  obtain ⟨k, e, q⟩ := h
  have hl := line63
  have hs : sizeLine = 16777216 := sizeLine_eq
  cases x with
  | non =>
    cases rx
    have e' : k = false := e
    subst e'
    exact truthy_none ⟨H, I, q⟩
  | bl b =>
    cases rx
    have e' : k = b := e
    subst e'
    exact wpAny_truthy_bool ⟨H, I, q⟩
  | int i =>
    obtain ⟨t, rfl⟩ := rx
    have e' : k = (i != 0) := e
    subst e'
    exact PySem.P.truthy_int ⟨H, I, q⟩
  | str y =>
    obtain ⟨t, rfl⟩ := rx
    obtain ⟨hy, e'⟩ : y.length ≤ sizeLine ∧ k = ((y.length : Int) != 0) := e
    subst e'
    exact PySem.P.truthy_str (by omega) ⟨H, I.tok _, q⟩
  | byt y =>
    obtain ⟨t, rfl⟩ := rx
    obtain ⟨hy, e'⟩ : y.size ≤ sizeLine ∧ k = ((y.size : Int) != 0) := e
    subst e'
    exact PySem.W.truthy_bytes (by omega) ⟨H, I.tok _, q⟩
  | ref p =>
    cases rx
    have e' : (∃ xs, SqL X.K H p xs ∧ k = !xs.isEmpty) ∨ (∃ xs, SqT X.K H p xs ∧ k = !xs.isEmpty) ∨ ∃ kvs, H p = some (.dK kvs) ∧ k = !kvs.isEmpty := e
    rcases e' with ⟨xs, hx, e'⟩ | ⟨xs, hx, e'⟩ | ⟨kvs, hx, e'⟩
    · subst e'
      obtain ⟨its, r, pl, hz⟩ := I.list hx
      have hlen := r.length
      exact wpAny_truthy_list pl.isList (by simp only [List.size_toArray]; omega) ⟨H, I.tok _, by rw [isEmpty_of r]; exact q⟩
    · subst e'
      obtain ⟨its, r, pl, hz⟩ := I.tuple hx
      have hlen := r.length
      exact truthy_tuple pl (by simp only [List.size_toArray]; omega) ⟨H, I.tok _, by rw [isEmpty_of r]; exact q⟩
    · subst e'
      obtain ⟨hz, hS, vs, r, m⟩ : kvs.length ≤ sizeLine ∧ (p == sysModules) = false ∧ ∃ vs, KV kvs vs ∧ s.heap.DictOf (mixKind X.prog X.w) p vs := I.hok p _ hx
      have hlen : kvs.length = vs.length := Paired.length r
      exact wpAny_truthy_dict hS m (by omega) ⟨H, I.tok _, by rw [isEmpty_kv r]; exact q⟩
  | _ => exact (show False from e).elim
/-- any expression whose test is its value's truth (a name, a call, a subscript, a field ..: he by fun _ => rfl) -/
theorem pt_truth (ha : PE X a ta) (he : ∀ whole, isTrue a X.env whole = (do let v ← whole; standAt a.pos; holding [v] (truthy v))) :
    PT X a (fun σ H Q => ta σ H fun x H' => ∃ k, TruV X.K x H' k ∧ Q k H') := by
  intro pins s σ H Q I h
  exact isTrue_plain (thn (ha pins s σ H _ I h) fun v s1 ⟨x, H1, I1, r1, q1⟩ => tru_ok pins s1 σ H1 x v Q I1 r1 q1) (he _)

/-! ### strs and bytes -/

/-! ### scalar builtins, by CallR -/
theorem vals1 {x : V} {us : List Value} (r : Vals [x] us) : ∃ u, us = [u] ∧ RelV x u := by
  cases r with
  | cons r1 r2 => cases r2; exact ⟨_, rfl, r1⟩
end
end L2

namespace L2
open PySem PySem.Spec PyProof.Rows

/-! ### an instance, its attributes a map -/
structure ObjM (h : Heap) (x dx C : Addr) (mA : Str → Option Value) : Prop where
  obj : h.get? x = some (PySem.W.instObj C dx)
  ns : h.Ns1 dx mA
  ne : dx ≠ x

theorem lookIn_ns {h : Heap} {dx : Addr} {mA : Str → Option Value} (n : h.Ns1 dx mA) : ∃ od, h.get? dx = some od ∧ ∀ name, PySem.W.lookIn name od = some (mA name) := by
  obtain ⟨o, es, ep, ho, hd, hk, _, hm⟩ := n
  refine ⟨o, ho, fun name => ?_⟩
  have e := hm name
  unfold nsFind findBy at e
  rw [← Array.find?_toList] at e
  unfold PySem.W.lookIn
  rw [hd]
  dsimp only
  split
  · rename_i y q
    rw [q] at e
    exact congrArg some e
  · rename_i q
    rw [q] at e
    have a : es.toList.any (·.refKey) = false := by
      rw [List.any_eq_false]
      intro y hy
      obtain ⟨z, t, hkey⟩ := hk y (Array.mem_toList_iff.mp hy)
      simp [DictEntry.refKey, hkey]
    have a' : ¬ es.toList.any (·.refKey) = true := by rw [a]; exact Bool.false_ne_true
    rw [if_neg a']
    exact congrArg some e

theorem ObjM.look {h : Heap} {x dx C : Addr} {mA : Str → Option Value} (I : ObjM h x dx C mA) : ∃ od, PySem.W.InstAt h x (PySem.W.instObj C dx) C (some od) ∧ ∀ name, PySem.W.lookIn name od = some (mA name) :=
  let ⟨od, ho, hl⟩ := lookIn_ns I.ns
  ⟨od, ⟨I.obj, rfl, rfl, ho⟩, hl⟩

section
variable {prog : Program} {w : World} {A : Around} {E : Value → Shared → Prop} {s : Shared} {K : PySem.W.Frag} {x dx C f : Addr} {mA : Str → Option Value} {name : Str} {v : Value}

theorem get_map {expr : Bool} {Q : Value → Shared → Prop} (X : K.In s.heap) (I : ObjM s.heap x dx C mA) (hg : PySem.W.plainGet K C name = true) (hh : PySem.W.hasDictIn K C = true)
    (ha : PySem.W.findIn K (.ref C) name = some none) (hv : mA name = some v) (hv' : PySem.W.handedIn v = true) (h : Q v { s with toks := s.toks + 1 }) :
    wpAny (model prog w) A (getAttr (.ref x) name expr) Q E s := by
  obtain ⟨od, J, hl⟩ := I.look
  exact PySem.W.get_value X J (PySem.W.plainGet_of hg).1 (PySem.W.findObj_own hh ha rfl (by rw [hl, hv])) hv' h

theorem get_meth {pl : Sem Bool} {Q : Value × List Value → Shared → Prop} (X : K.In s.heap) (I : ObjM s.heap x dx C mA) (hg : PySem.W.plainGet K C name = true)
    (hf : PySem.W.findIn K (.ref C) name = some (some (.ref f))) (ht : PySem.W.isFn K (.ref f) = true) (hv : mA name = none) (h : Q (.ref f, [.ref x]) s) :
    wpAny (model prog w) A (getMethod (.ref x) name pl) Q E s := by
  obtain ⟨od, J, hl⟩ := I.look
  exact PySem.W.method_fn X J (PySem.W.plainGet_of hg).1 (PySem.W.plainGet_of hg).2 hf (beq_iff_eq.mp ht) (by show (PySem.W.lookIn name od).map (·.isSome) = some false; rw [hl, hv]; rfl) h

theorem set_map {ns : List Str} {Q : Unit → Shared → Prop} (X : K.In s.heap) (I : ObjM s.heap x dx C mA)
    (hs : PySem.W.findIn K (.ref C) "__setattr__" = some (some (.builtin "object.__setattr__"))) (hp : PySem.W.plainOver K C = true) (ht : PySem.W.takerIn K C name = some none) (hh : PySem.W.hasDictIn K C = true)
    (hw : PySem.Within mA ns) (hsz : ns.length ≤ sizeLine)
    (h : ∀ h', ObjM h' x dx C (fun y => if y = name then some v else mA y) → Heap.SameBut dx s.heap h' → Q () { s with heap := h', toks := s.toks + 2 }) :
    wpAny (model prog w) A (setAttr (.ref x) name v) Q E s := by
  obtain ⟨od, J, hl⟩ := I.look
  refine PySem.W.set_plain X J hs (PySem.W.osa_open (s := { s with toks := s.toks + 1 }) (r := none) X J hp ht fun b => ?_)
  obtain ⟨cd, hc, hd'⟩ := PySem.W.any_some hh
  have hx : s.heap.get? x = some ⟨.ref C, some dx, .plain, #[]⟩ := I.obj
  refine wpAny_bind (wpAny_pure (wpAny_bind (wpAny_bind (wpAny_loadPart hx (wpAny_bind (PySem.W.Looks.here (s := { s with toks := s.toks + 1 }) (PySem.W.looks_clsIn X hc) ?_))))))
  rw [hd']
  refine wpAny_pure (a := some dx) (wpAny_bind (wpAny_pure (wpAny_bind ?_)))
  refine wpAny_nsSet1 (s := { s with toks := s.toks + 1 }) I.ns fun h' hn2 hs2 => ?_
  obtain ⟨oD, esD, epD, hoD, hdD, hcD⟩ := hn2.count (PySem.Within.cons name v hw)
  refine wpAny_bind (wpAny_lookBehind hoD (by rw [hdD]; exact pastItsLine_dict (Nat.le_trans hcD (by rw [List.length_cons]; omega))) ?_)
  exact wpAny_pure (h _ ⟨(hs2.2 _ (Ne.symm I.ne)).trans I.obj, hn2, I.ne⟩ hs2)

/-- C(..): the dict at the heap's end, the instance behind it; then its __init__ -/
theorem make_map {R : Result → Shared → Prop} {vs : List Value} {kw : List (Str × Value)} (X : K.In s.heap) (hm : PySem.W.makesIn K C = true)
    (hi : PySem.W.findIn K (.ref C) "__init__" = some (some (.ref f))) (hf : PySem.W.typeIn K (.ref f) = some (.type "function"))
    (h : codeAny (model prog w) (A.under (.builtin "type.__call__" ⟨.ref C :: vs, kw⟩)) (.call (.ref f) ⟨.ref (s.heap.objs.size + 1) :: vs, kw⟩) (PySem.W.InitBack (s.heap.objs.size + 1) R)
      { s with heap := (s.heap.push PySem.W.emptyDict).push (PySem.W.instObj C s.heap.objs.size) }) :
    codeAny (model prog w) A (.call (.ref C) ⟨vs, kw⟩) R s := by
  obtain ⟨hh, g, d, t, os⟩ := s
  exact PySem.W.make_core (PySem.W.makes_of X hm) (PySem.W.looks_findIn X hi) (fun self => PySem.W.bind_fn X self hf) (.inl rfl) h
end

/-! ### the attributes as a list of pairs -/
def putF (f : Str) (v : V) : List (Str × V) → List (Str × V)
  | [] => [(f, v)]
  | (g, x) :: r => if g = f then (g, v) :: r else (g, x) :: putF f v r
theorem lookup_putF (f g : Str) (v : V) : ∀ fs : List (Str × V), (putF f v fs).lookup g = if g = f then some v else fs.lookup g
  | [] => by
    show List.lookup g [(f, v)] = _
    by_cases h : g = f
    · have hb : (g == f) = true := beq_iff_eq.mpr h
      simp only [List.lookup, hb, if_pos h]
    · have hb : (g == f) = false := beq_eq_false_iff_ne.mpr h
      simp only [List.lookup, hb, if_neg h]
  | (k, x) :: r => by
    have ih := lookup_putF f g v r
    rw [show putF f v ((k, x) :: r) = (if k = f then (k, v) :: r else (k, x) :: putF f v r) from rfl]
    by_cases hk : k = f
    · rw [if_pos hk]
      by_cases h : g = k
      · have hb : (g == k) = true := beq_iff_eq.mpr h
        simp only [List.lookup, hb, if_pos (h.trans hk)]
      · have hb : (g == k) = false := beq_eq_false_iff_ne.mpr h
        simp only [List.lookup, hb, if_neg (fun e : g = f => h (e.trans hk.symm))]
    · rw [if_neg hk]
      by_cases h : g = k
      · have hb : (g == k) = true := beq_iff_eq.mpr h
        simp only [List.lookup, hb, if_neg (fun e : g = f => hk (h.symm.trans e))]
      · have hb : (g == k) = false := beq_eq_false_iff_ne.mpr h
        simp only [List.lookup, hb]
        exact ih
theorem keys_putF (f : Str) (v : V) : ∀ fs : List (Str × V), f ∈ (putF f v fs).map (·.1) ∧ ∀ g, g ∈ fs.map (·.1) → g ∈ (putF f v fs).map (·.1)
  | [] => ⟨by simp [putF], fun g h => by simp at h⟩
  | (k, x) :: r => by
    obtain ⟨i1, i2⟩ := keys_putF f v r
    rw [show putF f v ((k, x) :: r) = (if k = f then (k, v) :: r else (k, x) :: putF f v r) from rfl]
    by_cases hk : k = f
    · rw [if_pos hk]
      subst hk
      exact ⟨by simp, fun g h => by simpa using h⟩
    · rw [if_neg hk]
      refine ⟨?_, fun g h => ?_⟩
      · rw [List.map_cons]
        exact List.mem_cons_of_mem _ i1
      · rw [List.map_cons] at h ⊢
        rcases List.mem_cons.mp h with e | e
        · exact List.mem_cons.mpr (.inl e)
        · exact List.mem_cons_of_mem _ (i2 g e)
theorem length_putF (f : Str) (v : V) : ∀ fs : List (Str × V), (putF f v fs).length ≤ fs.length + 1
  | [] => by simp [putF]
  | (k, x) :: r => by
    have ih := length_putF f v r
    rw [show putF f v ((k, x) :: r) = (if k = f then (k, v) :: r else (k, x) :: putF f v r) from rfl]
    by_cases hk : k = f
    · rw [if_pos hk, List.length_cons, List.length_cons]; omega
    · rw [if_neg hk, List.length_cons, List.length_cons]; omega

theorem RelO.some_of {v : V} {o : Option Value} (r : RelO (some v) o) : ∃ u, o = some u ∧ RelV v u := by
  cases o with
  | none => exact (show False from r).elim
  | some u => exact ⟨u, rfl, r⟩
theorem RelO.none_of {o : Option Value} (r : RelO none o) : o = none := by
  cases o with
  | none => rfl
  | some u => exact (show False from r).elim
theorem handed_of {v : V} {u : Value} (r : RelV v u) : PySem.W.handedIn u = true := by
  cases v with
  | non => cases (show u = Value.none from r); rfl
  | bl b => cases (show u = Value.bool b from r); rfl
  | int i => obtain ⟨t, e⟩ := (show ∃ t, u = Value.int i t from r); cases e; rfl
  | str x => obtain ⟨t, e⟩ := (show ∃ t, u = Value.str x t from r); cases e; rfl
  | byt b => obtain ⟨t, e⟩ := (show ∃ t, u = Value.bytes b t from r); cases e; rfl
  | flt b => obtain ⟨t, e⟩ := (show ∃ t, u = Value.float b t from r); cases e; rfl
  | ref a => cases (show u = Value.ref a from r); rfl
  | ty n => cases (show u = Value.type n from r); rfl

section
variable {P : Program} {w : World} {H H' : Hp} {h h' : Heap} {a C dx : Addr} {fs fs' : List (Str × V)}
inductive InsI (H : Hp) (h : Heap) (a dx C : Addr) (fs : List (Str × V)) : Prop
  | mk (mA : Str → Option Value) (o : ObjM h a dx C mA) (r : ∀ f, RelO (fs.lookup f) (mA f)) (q : PySem.Within mA (fs.map (·.1))) (z : fs.length ≤ 1000) (d : H dx = some (.own a)) : InsI H h a dx C fs
theorem ins_get (hok : HOk P w H h) (e : H a = some (.ins C dx fs)) : InsI H h a dx C fs := by
  obtain ⟨d, z, ne, ob, mA, n, r, q⟩ := (show ObjOk P w H h a (.ins C dx fs) from hok a _ e)
  exact ⟨mA, ⟨ob, n, ne⟩, r, q, z, d⟩
end

/-! ### what of the text a class must have -/
structure Cls (K : PySem.W.Frag) (C : Addr) : Prop where
  pg : PySem.W.plainGet K C Str.empty = true
  hd : PySem.W.hasDictIn K C = true
  po : PySem.W.plainOver K C = true
  sa : PySem.W.findIn K (.ref C) "__setattr__" = some (some (.builtin "object.__setattr__"))
theorem Cls.get {K : PySem.W.Frag} {C : Addr} (c : Cls K C) (f : Str) : PySem.W.plainGet K C f = true := c.pg
/-- no class of it has the name -/
def NoAttr (K : PySem.W.Frag) (C : Addr) (f : Str) : Prop := PySem.W.findIn K (.ref C) f = some none
theorem NoAttr.taker {K : PySem.W.Frag} {C : Addr} {f : Str} (n : NoAttr K C f) : PySem.W.takerIn K C f = some none := by
  unfold PySem.W.takerIn
  rw [show PySem.W.findIn K (.ref C) f = some none from n]
  rfl
/-- a method: a plain def of the class or of one above it -/
structure Meth (K : PySem.W.Frag) (C : Addr) (m : Str) (f : Addr) : Prop where
  at_ : PySem.W.findIn K (.ref C) m = some (some (.ref f))
  fn : PySem.W.isFn K (.ref f) = true
  kp : PySem.W.keepIn K (.ref f) = true

section
variable {X : Cx} {pins : List (Addr × Obj)} {σ : St} {H : Hp} {s : Shared} {a C dx : Addr} {fs : List (Str × V)} {f : Str} {v : V} {A : Around} {E : Value → Shared → Prop}

theorem getattr_ok {b : Bool} {Q : Value → Shared → Prop} (I : Inv X pins σ H s) (e : H a = some (.ins C dx fs)) (c : Cls X.K C) (n : NoAttr X.K C f) (l : fs.lookup f = some v)
    (h : ∀ u s', Inv X pins σ H s' → RelV v u → Q u s') : wpAny (model X.prog X.w) A (getAttr (.ref a) f b) Q E s := by
  obtain ⟨mA, O, r, _, _, _⟩ := ins_get I.hok e
  obtain ⟨u, hu, ru⟩ := RelO.some_of (v := v) (o := mA f) (by rw [← l]; exact r f)
  exact get_map I.kIn O (c.get f) c.hd n hu (handed_of ru) (h u _ (I.tok _) ru)

theorem getmeth_ok {m : Str} {g : Addr} {pl : Sem Bool} {Q : Value × List Value → Shared → Prop} (I : Inv X pins σ H s) (e : H a = some (.ins C dx fs)) (c : Cls X.K C) (k : Meth X.K C m g) (l : fs.lookup m = none)
    (h : Q (.ref g, [.ref a]) s) : wpAny (model X.prog X.w) A (getMethod (.ref a) m pl) Q E s := by
  obtain ⟨mA, O, r, _, _, _⟩ := ins_get I.hok e
  have hn : mA m = none := RelO.none_of (by rw [← l]; exact r m)
  exact get_meth I.kIn O (c.get m) k.at_ k.fn hn h

theorem setattr_ok {y : V} {u : Value} {Q : Unit → Shared → Prop} (I : Inv X pins σ H s) (e : H a = some (.ins C dx fs)) (c : Cls X.K C) (n : NoAttr X.K C f) (hl : fs.length < 1000) (ry : RelV y u)
    (h : ∀ s', Inv X pins σ (upd H a (.ins C dx (putF f y fs))) s' → Q () s') : wpAny (model X.prog X.w) A (setAttr (.ref a) f u) Q E s := by
  obtain ⟨mA, O, r, wi, _, ho⟩ := ins_get I.hok e
  have hz : (fs.map (·.1)).length ≤ sizeLine := by rw [List.length_map, sizeLine_eq]; omega
  refine set_map I.kIn O c.sa c.po n.taker c.hd wi hz fun h' O' sb => h _ ?_
  have hd : ∃ o, h'.get? dx = some o := let ⟨o, _, _, e', _⟩ := O'.ns; ⟨o, e'⟩
  refine I.write (x := a) (e := dx) (by rw [e]; exact True.intro) (.inr ho) (fun b q hb z => (sb.2 b hb).trans z) hd ?_
  refine ⟨by rw [upd_ne O.ne]; exact ho, ?_, O.ne, O'.obj, _, O'.ns, fun g => ?_, fun g hg => ?_⟩
  · have := length_putF f y fs; omega
  · show RelO ((putF f y fs).lookup g) (if g = f then some u else mA g)
    rw [lookup_putF]
    by_cases q : g = f
    · rw [if_pos q, if_pos q]; exact ry
    · rw [if_neg q, if_neg q]; exact r g
  · by_cases q : g = f
    · rw [q]; exact (keys_putF f y fs).1
    · refine (keys_putF f y fs).2 g (wi g fun z => hg ?_)
      show (if g = f then some u else mA g) = none
      rw [if_neg q]; exact z

/-- a new instance, tracked, without attributes -/
theorem Inv.made (I : Inv X pins σ H s) : Inv X pins σ (upd (upd H s.heap.objs.size (.own (s.heap.objs.size + 1))) (s.heap.objs.size + 1) (.ins C s.heap.objs.size []))
    { s with heap := (s.heap.push PySem.W.emptyDict).push (PySem.W.instObj C s.heap.objs.size) } := by
  have e1 : (s.heap.push PySem.W.emptyDict).get? s.heap.objs.size = some PySem.W.emptyDict := Heap.get?_push_size s.heap rfl
  have e2 : ((s.heap.push PySem.W.emptyDict).push (PySem.W.instObj C s.heap.objs.size)).get? (s.heap.objs.size + 1) = some (PySem.W.instObj C s.heap.objs.size) := by
    have := Heap.get?_push_size (s.heap.push PySem.W.emptyDict) (o := PySem.W.instObj C s.heap.objs.size) rfl
    rwa [Heap.size_push] at this
  have e3 : (s.heap.push PySem.W.emptyDict).Ns s.heap.objs.size (fun _ => none) := ⟨PySem.W.emptyDict, #[], _, e1, rfl, (fun e he => absurd he (by simp)), fun _ => rfl⟩
  have I1 := I.laid (a := s.heap.objs.size) (o := .own (s.heap.objs.size + 1)) (h' := s.heap.push PySem.W.emptyDict) (t' := s.toks) (fun b u q => Heap.get?_push_of_some _ q) (Nat.le_refl _) ⟨_, e1⟩
  refine I1.laid (a := s.heap.objs.size + 1) (o := .ins C s.heap.objs.size []) (t' := s.toks) (fun b u q => Heap.get?_push_of_some _ q) (Nat.le_of_eq (Heap.size_push _ _)) ?_
  have ne : s.heap.objs.size ≠ s.heap.objs.size + 1 := Nat.ne_of_lt (Nat.lt_succ_self _)
  refine ⟨by rw [upd_ne ne, upd_same], Nat.zero_le _, ne, e2, fun _ => none, (Heap.Ns1.of_empty e3).at fun o q => Heap.get?_push_of_some _ q, fun _ => True.intro, fun y hy => absurd rfl hy⟩

/-- e.f where nothing but the object is asked: through attributeBase (super) and the last hold -/
theorem attr_of {prog : Program} {w : World} {env : Env} {e : Expr} {f : Str} {pos : Pos} {s : Shared} {Q : Value → Shared → Prop} (hb : attributeBase e f env (eval e env) = eval e env)
    (h : wpAny (model prog w) A (eval e env) (fun o s₁ => wpAny (model prog w) A (getAttr o f true) Q E s₁) E s) : wpAny (model prog w) A (eval (.Attribute e f pos) env) Q E s :=
  Attribute_any_ h (by rw [arm_eval_Attribute, hb])
end

/-! ### readings and rules -/
/-- e.f, an attribute of the instance -/
inductive FldP (K : PySem.W.Frag) (f : Str) (x : V) (H : Hp) (Q : VK) : Prop
  | mk (a C dx : Addr) (fs : List (Str × V)) (v : V) (e : x = .ref a) (h : H a = some (.ins C dx fs)) (c : Cls K C) (n : NoAttr K C f) (l : fs.lookup f = some v) (q : Q v H) : FldP K f x H Q
def tFld (K : PySem.W.Frag) (ta : TE) (f : Str) : TE := fun σ H Q => ta σ H fun x H1 => FldP K f x H1 Q
inductive SFdP (K : PySem.W.Frag) (f : Str) (x y : V) (H : Hp) (N : Hp → Prop) : Prop
  | mk (a C dx : Addr) (fs : List (Str × V)) (e : x = .ref a) (h : H a = some (.ins C dx fs)) (c : Cls K C) (n : NoAttr K C f) (l : fs.length < 1000) (q : N (upd H a (.ins C dx (putF f y fs)))) : SFdP K f x y H N
/-- e.f = value -/
def sFld (K : PySem.W.Frag) (ta tv : TE) (f : Str) : TS := fun D σ H => tv σ H fun y H1 => ta σ H1 fun x H2 => SFdP K f x y H2 (D.nx σ)

section
variable {X : Cx} {o e value : Expr} {f : Str} {pos pos' tpos : Pos} {ta tv : TE}
theorem pe_fld (he : PE X e ta) (hb : attributeBase e f X.env (eval e X.env) = eval e X.env) : PE X (.Attribute e f pos) (tFld X.K ta f) := by
  intro pins s σ H Q I h
  refine attr_of hb (thn (he pins s σ H _ I h) fun u s1 ⟨x, H1, I1, rx, a, C, dx, fs, v, ex, ea, c, n, l, q⟩ => ?_)
  subst ex
  obtain rfl : u = Value.ref a := rx
  exact getattr_ok I1 ea c n l fun u' s2 I2 ru => ⟨v, H1, I2, ru, q⟩
theorem ps_fld (ha : PE X o ta) (hv : PE X value tv) (hs : swapsWith value (some (.Attribute o f pos')) pos.line X.env = pure false) : PS X (.Assign [.Attribute o f pos'] value pos) (sFld X.K ta tv f) := by
  intro pins s σ H D I h
  refine plainObj_wpAny_Assign_Attribute (thn (hv pins s σ H _ I h) fun u s1 ⟨y, H1, I1, ry, q⟩ => thn (ha pins s1 σ H1 _ I1 q) fun ov s2 ⟨x, H2, I2, rx, a, C, dx, fs, ex, ea, c, n, l, q2⟩ => ?_) hs
  subst ex
  obtain rfl : ov = Value.ref a := rx
  exact setattr_ok I2 ea c n l ry fun s3 I3 => ⟨σ, _, I3, q2⟩

end

/-! ### isinstance -/
section
variable {X : Cx} {pins : List (Addr × Obj)} {σ : St} {H : Hp} {s : Shared} {A : Around} {E : Value → Shared → Prop} {Q : Value → Shared → Prop} {c : Value} {b : Bool}
end
end L2

namespace L2
open PySem PySem.Spec PyProof.Rows

/-! ### room -/
structure Room (k : Nat) (A : Around) : Prop where
  hd : A.handled = none
  dp : A.depth + 3 * k + 5 < recursionLimit
  un : A.units + 16 * k + 200 < cLine
theorem Room.mono {j k : Nat} {A : Around} (r : Room k A) (h : j ≤ k) : Room j A := ⟨r.hd, by have := r.dp; omega, by have := r.un; omega⟩
theorem Room.deeper {k : Nat} {A : Around} (r : Room (k + 1) A) (env : Env) : Room k (A.deeper env) :=
  ⟨r.hd, by have := r.dp; show A.depth + 1 + 3 * k + 5 < _; omega, by have := r.un; show A.units + 3 + 16 * k + 200 < _; omega⟩
theorem make_depth {A : Around} {C : Addr} {us : List Value} {kw : List (Str × Value)} : (A.under (.builtin "type.__call__" ⟨.ref C :: us, kw⟩)).depth = A.depth + 1 := by
  first | rfl | simp [Around.under, Code.weight, Code.isCreation, Code.isGuard, Code.isCaller, Code.frames, Code.isFrame, guardIds]
theorem make_units {A : Around} {C : Addr} {us : List Value} {kw : List (Str × Value)} : (A.under (.builtin "type.__call__" ⟨.ref C :: us, kw⟩)).units = A.units + 1 := by
  first | rfl | simp [Around.under, Code.cUnits, Code.frames, Code.isFrame]
theorem Room.make {k : Nat} {A : Around} (r : Room (k + 1) A) (C : Addr) (us : List Value) (kw : List (Str × Value)) : Room k (A.under (.builtin "type.__call__" ⟨.ref C :: us, kw⟩)) :=
  ⟨r.hd, by have := r.dp; rw [make_depth]; omega, by have := r.un; rw [make_units]; omega⟩
theorem Room.depth {k : Nat} {A : Around} (r : Room k A) : A.depth < recursionLimit := by have := r.dp; omega
theorem Room.units {k : Nat} {A : Around} (r : Room k A) : A.units + 64 < cLine := by have := r.un; omega

/-! ### argument lists and displays -/
def tNil : TA := fun _ H Q => Q [] H
def tCons (ta : TE) (tr : TA) : TA := fun σ H Q => ta σ H fun x H1 => tr σ H1 fun xs H2 => Q (x :: xs) H2
section
variable {X : Cx} {e : Expr} {es : List Expr} {te : TE} {t : TA} {pos : Pos}
theorem pa_nil : PA X [] tNil := fun _ _ _ _ H Q I h => Calls.spliced_nil ⟨[], H, I, .nil, h⟩
theorem pa_cons (ha : PE X e te) (hr : PA X es t) (hs : starEach (e :: es) X.env = (false, eval e X.env) :: starEach es X.env := by rfl) : PA X (e :: es) (tCons te t) := by
  intro pos pins s σ H Q I h
  rw [hs]
  show wpAny _ _ (spliced ((false, eval e X.env) :: backTo pos (starEach es X.env))) _ _ s
  refine Calls.spliced_cons (thn (ha pins s σ H _ I h) fun u s1 ⟨x, H1, I1, r1, q1⟩ => ?_)
  exact thn (hr pos pins s1 σ H1 _ I1 q1) fun us s2 ⟨xs, H2, I2, r2, q2⟩ => ⟨x :: xs, H2, I2, .cons r1 r2, q2⟩

/-- a tuple, a list of written items -/
def tTup (t : TA) : TE := fun σ H Q => t σ H fun xs H1 => xs.length ≤ sizeLine ∧ ∀ p, H1 p = none → Q (.ref p) (upd H1 p (.tup xs))
def tLst (t : TA) : TE := fun σ H Q => t σ H fun xs H1 => xs.length ≤ sizeLine ∧ ∀ p, H1 p = none → Q (.ref p) (upd H1 p (.lst xs))
theorem pe_tup {x1} (h : PA X es t) : PE X (.Tuple es x1 pos) (tTup t) := by
  intro pins s σ H Q I hq
  refine wpAny_Tuple_spliced (thn (h pos pins s σ H _ I hq) fun us s1 ⟨xs, H1, I1, r, z, q⟩ => ⟨by rw [← r.length]; exact z, ?_⟩)
  have hf : H1 s1.heap.objs.size = none := I1.hok.fresh (Nat.le_refl _)
  refine ⟨.ref s1.heap.objs.size, upd H1 s1.heap.objs.size (.tup xs), I1.laid (t' := s1.toks) (fun b u e => Heap.get?_push_of_some _ e) (Nat.le_refl _) ?_, rfl, q _ hf⟩
  exact ⟨z, us, r, ⟨_, Heap.get?_push_size _ rfl, rfl, _, rfl⟩⟩
theorem pe_lst (h : PA X es t) : PE X (.List es pos) (tLst t) := by
  intro pins s σ H Q I hq
  refine wpAny_List_spliced (thn (h pos pins s σ H _ I hq) fun us s1 ⟨xs, H1, I1, r, z, q⟩ => ⟨by rw [← r.length]; exact z, ?_⟩)
  have hf : H1 s1.heap.objs.size = none := I1.hok.fresh (Nat.le_refl _)
  refine ⟨.ref s1.heap.objs.size, upd H1 s1.heap.objs.size (.lst xs), I1.laid (t' := s1.toks) (fun b u e => Heap.get?_push_of_some _ e) (Nat.le_refl _) ?_, rfl, q _ hf⟩
  exact ⟨z, us, 0, r, Heap.get?_push_size _ rfl⟩
end

/-! ### what a def promises -/
/-- a def's promise: the bound arguments in the parameters' order, the heap, the wanted end, the wanted exception -/
abbrev Sp := List V → Hp → VK → XK → Prop
/-- how an exception lies behind a call (file 08 gives it): the callers' frames, abstract heap and state ahead of the call, the wish, the exception, the state -/
abbrev CXT := List Env → Hp → Shared → XK → Value → Shared → Prop

/-- the state at a call -/
structure Env0 (P : Program) (w : World) (K : PySem.W.Frag) (mg : Str → Option Value) (base : Heap) (A : Around) (outer : List Env) (s : Shared) (H : Hp) : Prop where
  frames : A.frames = some outer
  mod : Mod K mg base
  bs : ∀ b o, base.get? b = some o → s.heap.get? b = some o ∧ H b = none
  bsz : base.objs.size ≤ s.heap.objs.size
  funs : s.heap.FunFrames base outer
  frf : ∀ b ∈ frs outer, H b = none
  hok : HOk P w H s.heap
  bare : AllBare s.gens
/-- a call's end -/
def CE (outer : List Env) (P : Program) (w : World) (H : Hp) (s : Shared) (Q : VK) (u : Value) (s' : Shared) : Prop :=
  ∃ v H', s'.os = s.os ∧ AllBare s'.gens ∧ Un (frs outer) [] H H' s.heap s'.heap ∧ HOk P w H' s'.heap ∧ RelV v u ∧ Q v H'
def CR (CX : CXT) (outer : List Env) (P : Program) (w : World) (H : Hp) (s : Shared) (Q : VK) (E : XK) (r : Result) (s' : Shared) : Prop :=
  match r with
  | .ok (.ret u) => CE outer P w H s Q u s'
  | .ok _ => False
  | .error e => CX outer H s E e s'
structure FnOk (P : Program) (w : World) (K : PySem.W.Frag) (mg : Str → Option Value) (base : Heap) (CX : CXT) (k : Nat) (f : Addr) (fd : FuncData) (ps : List Str) (sp : Sp) : Prop where
  len : ∀ vs H Q E, sp vs H Q E → vs.length = ps.length
  run : ∀ (A : Around) (outer : List Env) (s : Shared) (H : Hp) (args : Args) (us : List Value) (vs : List V) (Q : VK) (E : XK), Room k A → Env0 P w K mg base A outer s H → BindsTo s fd args (ps.zip us) → Vals vs us → sp vs H Q E →
    codeAny (model P w) A (.call (.ref f) args) (CR CX outer P w H s Q E) s
theorem FnOk.mono {P : Program} {w : World} {K : PySem.W.Frag} {mg : Str → Option Value} {base : Heap} {CX : CXT} {j k : Nat} {f : Addr} {fd : FuncData} {ps : List Str} {sp : Sp} (F : FnOk P w K mg base CX j f fd ps sp) (h : j ≤ k) :
    FnOk P w K mg base CX k f fd ps sp := ⟨F.len, fun A outer s H args us vs Q E hr => F.run A outer s H args us vs Q E (hr.mono h)⟩
/-- a weaker promise -/
theorem FnOk.imp {P : Program} {w : World} {K : PySem.W.Frag} {mg : Str → Option Value} {base : Heap} {CX : CXT} {k : Nat} {f : Addr} {fd : FuncData} {ps : List Str} {sp sp' : Sp} (F : FnOk P w K mg base CX k f fd ps sp)
    (h : ∀ vs H Q E, sp' vs H Q E → sp vs H Q E) : FnOk P w K mg base CX k f fd ps sp' :=
  ⟨fun vs H Q E q => F.len vs H Q E (h _ _ _ _ q), fun A outer s H args us vs Q E hr he hb hv hs => F.run A outer s H args us vs Q E hr he hb hv (h _ _ _ _ hs)⟩

theorem Env0.make {P : Program} {w : World} {K : PySem.W.Frag} {mg : Str → Option Value} {base : Heap} {A : Around} {outer : List Env} {s : Shared} {H : Hp} (e : Env0 P w K mg base A outer s H) (C : Addr) (us : List Value) (kw : List (Str × Value)) :
    Env0 P w K mg base (A.under (.builtin "type.__call__" ⟨.ref C :: us, kw⟩)) outer s H := ⟨by first | exact e.frames | (simpa [Around.under, Code.envs, Code.isFrame, pushEnvs] using e.frames), e.mod, e.bs, e.bsz, e.funs, e.frf, e.hok, e.bare⟩

section
variable {X : Cx} {pins : List (Addr × Obj)} {σ : St} {H : Hp} {s s' : Shared}
/-- from a body: what a callee wants -/
theorem Inv.env0 (I : Inv X pins σ H s) : Env0 X.prog X.w X.K X.mg X.base X.A X.stack s H :=
  ⟨I.ok.frames, I.ok.mod, I.bs, Nat.le_trans I.ok.bsz I.sz, I.stack, I.stkFree, I.hok, I.bare⟩
/-- behind a call -/
theorem Inv.after {Q : VK} {u : Value} (I : Inv X pins σ H s) (h : CE X.stack X.prog X.w H s Q u s') : EP X pins σ Q u s' := by
  obtain ⟨v, H', os, bare, un, hok, r, q⟩ := h
  obtain ⟨hh, g, d, t, os'⟩ := s'
  obtain rfl : os' = s.os := os
  exact ⟨v, H', I.call (h' := hh) (g' := g) (d' := d) (t' := t) (ch := []) un hok bare (fun b z => absurd z (by simp)), r, q⟩
end

/-! ### calls -/
/-- f(..): the written arguments, then the defaults dvs; E: what is wanted of an exception -/
def tCall (sp : Sp) (dvs : List V) (E : XK) (t : TA) : TE := fun σ H Q => t σ H fun vs H1 => sp (vs ++ dvs) H1 Q E
/-- o.m(..) of an instance of the class at C -/
def tMeth (C : Addr) (m : Str) (sp : Sp) (dvs : List V) (E : XK) (ta : TE) (t : TA) : TE := fun σ H Q => ta σ H fun x H1 => ∃ a dx fs, x = .ref a ∧ H1 a = some (.ins C dx fs) ∧ fs.lookup m = none ∧
  t σ H1 fun vs H2 => sp (x :: (vs ++ dvs)) H2 Q E
/-- C(..): a new instance and its dict, then __init__ -/
def tMake (C : Addr) (sp : Sp) (dvs : List V) (E : XK) (t : TA) : TE := fun σ H Q => t σ H fun vs H1 => ∀ x dx, H1 x = none → H1 dx = none → dx ≠ x →
  sp (.ref x :: (vs ++ dvs)) (upd (upd H1 dx (.own x)) x (.ins C dx [])) (fun v H2 => v = .non ∧ Q (.ref x) H2) E

/-- how the parameters are bound: us the positional arguments, kw the keywords' values by name, ds the defaults that fill up -/
def Binds (K : PySem.W.Frag) (fd : FuncData) (ps : List Str) (ds : List Value) : Prop :=
  ∀ (s : Shared) (us : List Value), K.In s.heap → (us ++ ds).length = ps.length → BindsTo s fd ⟨us, []⟩ (ps.zip (us ++ ds))
/-- every parameter is given -/
theorem Binds.all {K : PySem.W.Frag} {fd : FuncData} {ps : List Str} (h : ∀ us : List Value, us.length = ps.length → bindArgs fd ⟨us, []⟩ = pure (ps.zip us)) : Binds K fd ps [] := fun s us _ hl => by
  rw [List.append_nil] at hl ⊢
  exact .of_eq (h us hl)

/-- an exception of a callee reaches what this body wants of exceptions -/
def Passes (CX : CXT) (X : Cx) (E : XK) : Prop := ∀ (pins : List (Addr × Obj)) (σ : St) (H : Hp) (s : Shared) (e : Value) (s' : Shared), Inv X pins σ H s → CX X.stack H s E e s' → X.xe e s'

section
variable {X : Cx} {CX : CXT} {k : Nat} {f C : Addr} {fd : FuncData} {ps : List Str} {sp : Sp} {dvs : List V} {ds : List Value} {E : XK} {x m : Str} {p pos apos : Pos} {e o : Expr} {es : List Expr} {ta : TE} {t : TA}

/-- the callee runs -/
theorem run_fn {pins : List (Addr × Obj)} {σ : St} {H : Hp} {s : Shared} {Q : VK} {us : List Value} {vs : List V} (F : FnOk X.prog X.w X.K X.mg X.base CX k f fd ps sp) (hr : Room k X.A) (hb : Binds X.K fd ps ds) (hd : Vals dvs ds) (hx : Passes CX X E)
    (I : Inv X pins σ H s) (r : Vals vs us) (h : sp (vs ++ dvs) H Q E) : wpAny (model X.prog X.w) X.A (call (.ref f) us) (EP X pins σ Q) X.xe s := by
  have r2 : Vals (vs ++ dvs) (us ++ ds) := r.append hd
  have hl : (us ++ ds).length = ps.length := by rw [← r2.length]; exact F.len _ _ _ _ h
  refine wpAny_call (codeAny_mono (F.run X.A X.stack s H ⟨us, []⟩ (us ++ ds) (vs ++ dvs) Q E hr I.env0 (hb s us I.kIn hl) r2 h) fun r s' hq => ?_)
  cases r with
  | error e => exact hx pins σ H s e s' I hq
  | ok fl =>
    cases fl with
    | ret u => exact I.after hq
    | next => exact False.elim hq
    | brk => exact False.elim hq
    | cont => exact False.elim hq

theorem pe_call (F : FnOk X.prog X.w X.K X.mg X.base CX k f fd ps sp) (hr : Room k X.A) (hg : Gl X x) (hm : X.mg x = some (.ref f)) (hk : PySem.W.keepIn X.K (.ref f) = true) (hb : Binds X.K fd ps ds) (hd : Vals dvs ds) (hx : Passes CX X E)
    (ha : PA X (e :: es) t) (hdb : (x == ("__debug__" : Str)) = false := by decide) (he : starEach (e :: es) X.env = (false, eval e X.env) :: starEach es X.env := by rfl) (hpl : (backTo pos (starEach es X.env)).any (·.1) = false := by rfl) :
    PE X (.Call (.Name x p) (e :: es) [] pos) (tCall sp dvs E t) := by
  intro pins s σ H Q I h
  refine wpAny_Call_Name_kw (ld_glob I hg hm ?_ hdb)
  refine PySem.W.callWith_K (h₀ := X.base) I.ok.mod.kin hk (thn (ha pos pins s σ H _ I h) fun us s1 ⟨vs, H1, I1, r, q⟩ => ⟨I1.kIn, ?_⟩) he hpl
  exact run_fn F hr hb hd hx I1 r q
/-- o.m() -/
theorem pe_meth0 {pl : Sem Bool} (he : PE X o ta) (c : Cls X.K C) (hm : Meth X.K C m f) (F : FnOk X.prog X.w X.K X.mg X.base CX k f fd ps sp) (hr : Room k X.A) (hb : Binds X.K fd ps ds) (hd : Vals dvs ds) (hx : Passes CX X E)
    (ht : eval (.Call (.Attribute o m apos) [] [] pos) X.env = (do
      let ov ← eval o X.env
      standAt apos.atName
      let (f, first) ← holding [ov] (getMethod ov m pl)
      callWith pos f first (backTo pos (starEach [] X.env)) (backToKw pos (keywordEach [] X.env))) := by rfl) :
    PE X (.Call (.Attribute o m apos) [] [] pos) (tMeth C m sp dvs E ta tNil) := by
  intro pins s σ H Q I h
  refine PySem.W.methodCall_KW (pl := pl) (thn (he pins s σ H _ I h) fun u s1 ⟨x, H1, I1, rx, a, dx, fs, ex, ea, l, q⟩ => ?_) ht
  subst ex
  obtain rfl : u = Value.ref a := rx
  refine getmeth_ok I1 ea c hm l ?_
  exact PySem.W.callWith_K0 (first := [.ref a]) I1.kIn hm.kp (run_fn (us := [.ref a]) (vs := [.ref a]) F hr hb hd hx I1 (.cons rfl .nil) q)

/-- what a class must have to be made -/
structure Mk (K : PySem.W.Frag) (C f : Addr) : Prop where
  makes : PySem.W.makesIn K C = true
  init : PySem.W.findIn K (.ref C) "__init__" = some (some (.ref f))
  fn : PySem.W.isFn K (.ref f) = true
  kp : PySem.W.keepIn K (.ref C) = true

theorem run_make {pins : List (Addr × Obj)} {σ : St} {H : Hp} {s : Shared} {Q : VK} {us : List Value} {vs : List V} (M : Mk X.K C f) (F : FnOk X.prog X.w X.K X.mg X.base CX k f fd ps sp) (hr : Room (k + 1) X.A) (hb : Binds X.K fd ps ds) (hd : Vals dvs ds)
    (hx : Passes CX X E) (I : Inv X pins σ H s) (r : Vals vs us)
    (h : ∀ x dx, H x = none → H dx = none → dx ≠ x → sp (.ref x :: (vs ++ dvs)) (upd (upd H dx (.own x)) x (.ins C dx [])) (fun v H2 => v = .non ∧ Q (.ref x) H2) E) :
    wpAny (model X.prog X.w) X.A (call (.ref C) us) (EP X pins σ Q) X.xe s := by
  have hq := h (s.heap.objs.size + 1) s.heap.objs.size (I.hok.fresh (Nat.le_succ _)) (I.hok.fresh (Nat.le_refl _)) (Nat.ne_of_lt (Nat.lt_succ_self _))
  have I2 := Inv.made (C := C) I
  have r2 : Vals (V.ref (s.heap.objs.size + 1) :: (vs ++ dvs)) (Value.ref (s.heap.objs.size + 1) :: (us ++ ds)) := .cons rfl (r.append hd)
  have hl : (Value.ref (s.heap.objs.size + 1) :: us ++ ds).length = ps.length := by
    have e := r2.length
    rw [F.len _ _ _ _ hq] at e
    exact e.symm
  refine wpAny_call (make_map (f := f) I.kIn M.makes M.init (beq_iff_eq.mp M.fn) (codeAny_mono (F.run _ X.stack _ _ ⟨Value.ref (s.heap.objs.size + 1) :: us, []⟩ (Value.ref (s.heap.objs.size + 1) :: (us ++ ds)) _ _ E (hr.make C us [])
    (I2.env0.make C us []) (hb _ (Value.ref (s.heap.objs.size + 1) :: us) I2.kIn hl) r2 hq) fun r s' hq' => ?_))
  cases r with
  | error e => exact hx pins σ _ _ e s' I2 hq'
  | ok fl =>
    cases fl with
    | ret u =>
      obtain ⟨v, H', I3, rv, ev, q3⟩ := I2.after hq'
      subst ev
      exact ⟨rv, ⟨V.ref (s.heap.objs.size + 1), H', I3, rfl, q3⟩⟩
    | next => exact False.elim hq'
    | brk => exact False.elim hq'
    | cont => exact False.elim hq'
theorem pe_make (M : Mk X.K C f) (F : FnOk X.prog X.w X.K X.mg X.base CX k f fd ps sp) (hr : Room (k + 1) X.A) (hg : Gl X x) (hm : X.mg x = some (.ref C)) (hb : Binds X.K fd ps ds) (hd : Vals dvs ds) (hx : Passes CX X E)
    (ha : PA X (e :: es) t) (hdb : (x == ("__debug__" : Str)) = false := by decide) (he : starEach (e :: es) X.env = (false, eval e X.env) :: starEach es X.env := by rfl) (hpl : (backTo pos (starEach es X.env)).any (·.1) = false := by rfl) :
    PE X (.Call (.Name x p) (e :: es) [] pos) (tMake C sp dvs E t) := by
  intro pins s σ H Q I h
  refine wpAny_Call_Name_kw (ld_glob I hg hm ?_ hdb)
  refine PySem.W.callWith_K (h₀ := X.base) I.ok.mod.kin M.kp (thn (ha pos pins s σ H _ I h) fun us s1 ⟨vs, H1, I1, r, q⟩ => ⟨I1.kIn, ?_⟩) he hpl
  exact run_make M F hr hb hd hx I1 r q
theorem pe_make0 (M : Mk X.K C f) (F : FnOk X.prog X.w X.K X.mg X.base CX k f fd ps sp) (hr : Room (k + 1) X.A) (hg : Gl X x) (hm : X.mg x = some (.ref C)) (hb : Binds X.K fd ps ds) (hd : Vals dvs ds) (hx : Passes CX X E)
    (hdb : (x == ("__debug__" : Str)) = false := by decide) : PE X (.Call (.Name x p) [] [] pos) (tMake C sp dvs E tNil) := by
  intro pins s σ H Q I h
  refine wpAny_Call_Name_kw (ld_glob I hg hm ?_ hdb)
  exact PySem.W.callWith_K0 I.kIn M.kp (run_make (us := []) M F hr hb hd hx I .nil h)
end

/-! ### keywords -/
section
variable {X : Cx} {CX : CXT} {k : Nat} {f C : Addr} {fd : FuncData} {ps ks : List Str} {sp : Sp} {E : XK} {x m : Str} {p pos apos kpos : Pos} {e o : Expr} {es : List Expr} {kws : List Keyword} {te ta : TE} {t tk : TA} {nm : Option Str}

variable {g : List Value → List Value → List Value} {gV : List V → List V → List V}
end

/-! ### a def's body keeps its promise -/
/-- names: the parameters first -/
structure FnScope (N P : List Str) (sc : Scope) : Prop where
  kind : sc.kind = .function
  co : sc.isCoroutine = false
  gen : sc.isGenerator = false
  nd : N.Nodup
  pre : N.take P.length = P
  par : ∀ x ∈ P, sc.names.lookup x = some .local ∨ sc.names.lookup x = some .cell
  nofree : ∀ y ∈ sc.names, y.2 ≠ .free

theorem bindL_out {kindOf : Str → Option NameKind} {x : Str} : ∀ {binds : List (Str × Value)} {m : Str → Option Value}, (∀ v, (x, v) ∉ binds) → bindL kindOf binds m x = m x
  | [], _, _ => rfl
  | (n, v) :: r, m, h => by
    unfold bindL
    rw [bindL_out fun w hw => h w (List.mem_cons_of_mem _ hw)]
    split
    · have : x ≠ n := by rintro rfl; exact h v List.mem_cons_self
      simp [this]
    · rfl
theorem bindC_out {kindOf : Str → Option NameKind} {x : Str} : ∀ {binds : List (Str × Value)} {m : Str → Option Value}, (∀ v, (x, v) ∉ binds) → bindC kindOf binds m x = m x
  | [], _, _ => rfl
  | (n, v) :: r, m, h => by
    unfold bindC
    rw [bindC_out fun w hw => h w (List.mem_cons_of_mem _ hw)]
    split
    · rfl
    · have : x ≠ n := by rintro rfl; exact h v List.mem_cons_self
      simp [this]
theorem bindL_get {kindOf : Str → Option NameKind} {x : Str} {v : Value} : ∀ {P : List Str} {vs : List Value} {i : Nat} {m : Str → Option Value}, P.Nodup → P[i]? = some x → vs[i]? = some v → kindOf x = some .local →
    bindL kindOf (P.zip vs) m x = some v
  | [], _, _, _, _, h, _, _ => by simp at h
  | _ :: _, [], _, _, _, _, h, _ => by simp at h
  | p :: P, w :: vs, 0, m, nd, h1, h2, hk => by
    simp at h1 h2; subst h1; subst h2
    show bindL kindOf ((p, w) :: P.zip vs) m p = _
    unfold bindL
    rw [bindL_out fun v hv => (List.nodup_cons.mp nd).1 (List.of_mem_zip hv).1, if_pos hk]
    simp
  | p :: P, w :: vs, i + 1, m, nd, h1, h2, hk => by
    show bindL kindOf ((p, w) :: P.zip vs) m x = _
    unfold bindL
    exact bindL_get (i := i) (List.nodup_cons.mp nd).2 (by simpa using h1) (by simpa using h2) hk
theorem bindC_get {kindOf : Str → Option NameKind} {x : Str} {v : Value} : ∀ {P : List Str} {vs : List Value} {i : Nat} {m : Str → Option Value}, P.Nodup → P[i]? = some x → vs[i]? = some v → kindOf x ≠ some .local →
    bindC kindOf (P.zip vs) m x = some v
  | [], _, _, _, _, h, _, _ => by simp at h
  | _ :: _, [], _, _, _, _, h, _ => by simp at h
  | p :: P, w :: vs, 0, m, nd, h1, h2, hk => by
    simp at h1 h2; subst h1; subst h2
    show bindC kindOf ((p, w) :: P.zip vs) m p = _
    unfold bindC
    rw [bindC_out fun v hv => (List.nodup_cons.mp nd).1 (List.of_mem_zip hv).1, if_neg hk]
    simp
  | p :: P, w :: vs, i + 1, m, nd, h1, h2, hk => by
    show bindC kindOf ((p, w) :: P.zip vs) m x = _
    unfold bindC
    exact bindC_get (i := i) (List.nodup_cons.mp nd).2 (by simpa using h1) (by simpa using h2) hk

/-- the names' values at the entry -/
def start (N : List Str) (vs : List V) : St := vs.map some ++ List.replicate (N.length - vs.length) none

/-- the context of a def's body, at its entry; an exception leaves the frame, then lies as CX says -/
def cxOf (CX : CXT) (P : Program) (w : World) (K : PySem.W.Frag) (mg : Str → Option Value) (base : Heap) (N : List Str) (qual : Str) (scope : Scope) (f : Addr) (cd : Value) (A : Around) (outer : List Env) (s : Shared) (H : Hp) (E : XK) : Cx where
  prog := P
  w := w
  K := K
  mg := mg
  base := base
  A := A.deeper (envOfC qual scope s.heap.objs.size f cd)
  N := N
  s_0 := s
  H_0 := H
  env := envOfC qual scope s.heap.objs.size f cd
  outer := outer
  stack := envOfC qual scope s.heap.objs.size f cd :: outer
  ex := []
  calm := true
  fn := fun _ => true
  pn := []
  xe := fun e s' => wpAny (model P w) (A.deeper (envOfC qual scope s.heap.objs.size f cd)) (leaving (envOfC qual scope s.heap.objs.size f cd) e) (fun _ s'' => CX outer H s E e s'') (fun e' s'' => CX outer H s E e' s'') s'

theorem cell_has {sc : Scope} {n : Nat} {x : Str} (h : sc.names.lookup x = some .cell) : ∃ c, (cellsFrom n sc.names []).lookup x = some c := by
  have q := PySem.W.cellsFrom_some sc.names n [] (.inl h)
  exact Option.isSome_iff_exists.mp q

theorem inv_start {CX : CXT} {P : Program} {w : World} {K : PySem.W.Frag} {mg : Str → Option Value} {base : Heap} {N ps : List Str} {qual : Str} {scope : Scope} {f : Addr} {cd : Value} {A : Around} {outer : List Env} {s s1 : Shared} {H : Hp} {E : XK} {us : List Value} {vs : List V}
    (S : FnScope N ps scope) (hd : A.handled = none) (e0 : Env0 P w K mg base A outer s H) (hl : vs.length = ps.length) (r : Vals vs us)
    (x : InCallC s s.heap.objs.size (bindL (envOfC qual scope s.heap.objs.size f cd).kindOf (ps.zip us) fun _ => none) (cellsFrom (s.heap.objs.size + 1) scope.names []) (bindC (envOfC qual scope s.heap.objs.size f cd).kindOf (ps.zip us) fun _ => none) s1) :
    Inv (cxOf CX P w K mg base N qual scope f cd A outer s H E) [] (start N vs) H s1 := by
  have hpl : ps.length ≤ N.length := by have := congrArg List.length S.pre; rw [List.length_take] at this; omega
  obtain ⟨h1, tk, rfl, hk⟩ := x.done
  have noA : ∀ b : Addr, b ∉ (cxOf CX P w K mg base N qual scope f cd A outer s H E).ex := fun b z => absurd (show b ∈ ([] : List Addr) from z) (by simp)
  refine ⟨⟨e0.mod, S.kind, rfl, rfl, Nat.le_refl _, fun y z c h1 h2 => ?_, fun y hy => ?_, fun y c _ h => ?_, fun _ => hd, Around.frames_deeper e0.frames, .inr ⟨rfl, rfl⟩, fun b z => absurd z (noA b), e0.bs, e0.bsz, fun b _ _ => noA b, fun b z => absurd z (noA b), e0.funs, e0.frf⟩,
    rfl, e0.bare, Un.kept hk, ⟨_, x.toInCall.ns, fun i y v h1 h2 h3 => ?_⟩, fun y c h => ⟨_, x.cell y c h⟩, e0.hok.fresh (Nat.le_refl _), fun y c h => ?_, fun p hp => absurd (show p ∈ ([] : List (Addr × Obj)) from hp) (by simp), e0.hok.kept hk, ?_⟩
  · exact name_of_addr x.apart (PySem.mem_of_lookup h1) (PySem.mem_of_lookup h2)
  · have hy : scope.names.lookup y = some .cell ∨ scope.names.lookup y = some .free := hy
    rcases hy with hy | hy
    · exact cell_has hy
    · exact absurd rfl (S.nofree _ (PySem.mem_of_lookup hy))
  · exact Nat.le_of_lt (x.above y c (PySem.mem_of_lookup h))
  · have hi : i < vs.length := by
      unfold start at h2
      by_cases hi : i < vs.length
      · exact hi
      · rw [List.getElem?_append_right (by simpa using hi)] at h2
        rw [List.getElem?_replicate] at h2
        split at h2 <;> cases h2
    have ha : vs[i]? = some v := by
      unfold start at h2
      rw [List.getElem?_append_left (by simpa using hi), List.getElem?_map] at h2
      cases e : vs[i]? with
      | none => rw [e] at h2; cases h2
      | some a => rw [e] at h2; cases h2; rfl
    obtain ⟨u, hu, rv⟩ := r.get ha
    have hp : ps[i]? = some y := by
      rw [← S.pre, List.getElem?_take_of_lt (by omega)]; exact h1
    have ndP : ps.Nodup := by rw [← S.pre]; exact S.nd.sublist (List.take_sublist _ _)
    refine ⟨u, rv, ?_⟩
    rcases S.par y (List.mem_of_getElem? hp) with k | k
    · exact .inl ⟨k, bindL_get ndP hp hu k⟩
    · obtain ⟨c, e⟩ := cell_has (n := s.heap.objs.size + 1) k
      refine .inr ⟨.inl k, c, e, ?_⟩
      have q := x.cell y c e
      rw [bindC_get ndP hp hu (by show scope.names.lookup y ≠ _; rw [k]; decide)] at q
      exact q
  · exact e0.hok.fresh (Nat.le_of_lt (x.above y c (PySem.mem_of_lookup h)))
  · unfold start
    show _ = N.length
    rw [List.length_append, List.length_map, List.length_replicate]
    omega

/-- THE RULE: a def (or a method) of the text, by its body. The body's reading t is chosen for each entry; it is run at the parameters' values -/
theorem fn_of {CX : CXT} {P : Program} {w : World} {K : PySem.W.Frag} {mg : Str → Option Value} {base : Heap} {k : Nat} {f : Addr} {name qual : Str} {params : Arguments} {body : List Stmt} {scope : Scope} {dV kV doc pm cdv ct oc : Value} {an od : Option Addr}
    {osl : Array (Option Value)} {N ps : List Str} {sp : Sp} (lk : K.lookup f = some ⟨oc, od, .func (PySem.W.fnOf name qual params body scope dV kV doc pm an cdv ct), osl⟩) (hcd : PySem.W.codeIn K cdv qual = true) (S : FnScope N ps scope)
    (len : ∀ vs H Q E, sp vs H Q E → vs.length = ps.length)
    (hbody : ∀ (A : Around) (outer : List Env) (s : Shared) (H : Hp) (vs : List V) (Q : VK) (E : XK), Room k (A.deeper (envOfC qual scope s.heap.objs.size f cdv)) → sp vs H Q E →
      ∃ t, PSs (cxOf CX P w K mg base N qual scope f cdv A outer s H E) body t ∧ t { nx := fun _ H' => Q .non H', rt := Q } (start N vs) H) :
    FnOk P w K mg base CX (k + 1) f (PySem.W.fnOf name qual params body scope dV kV doc pm an cdv ct) ps sp := by
  refine ⟨len, fun A outer s H args us vs Q E hr e0 hb r hsp => ?_⟩
  have hl := len _ _ _ _ hsp
  have KX : K.In s.heap := e0.mod.kin.keeps fun b o e => (e0.bs b o e).1
  have lim : s.heap.NoLimit := e0.mod.nolimit.keeps fun b o e => (e0.bs b o e).1
  have hkind : ∀ y ∈ ps.zip us, scope.names.lookup y.1 = some .local ∨ (scope.names.lookup y.1 = some .cell ∧ ((cellsFrom (s.heap.objs.size + 1) scope.names []).lookup y.1).isSome = true) := fun ⟨n, v⟩ hy => by
    rcases S.par n (List.of_mem_zip hy).1 with q | q
    · exact .inl q
    · exact .inr ⟨q, PySem.W.cellsFrom_some _ _ _ (.inl q)⟩
  refine codeAny_call_function hr.depth (KX _ _ lk) rfl S.co S.gen rfl (PySem.W.codeRec_of KX hcd) (hb _ _ _ _ ?_)
  refine wpAny_newFunctionEnv_cells S.kind hkind fun env he s1 x => ?_
  subst he
  refine ⟨lim.keeps x.toInCall.keep, codeAny_func ?_⟩
  obtain ⟨t, ht, hq⟩ := hbody A outer s H vs Q E (hr.deeper _) hsp
  have I : Inv (cxOf CX P w K mg base N qual scope f cdv A outer s H E) [] (start N vs) H s1 := inv_start S hr.hd e0 hl r x
  refine wpAny_mono (ht [] s1 (start N vs) H _ I hq) (fun fl s' hs => ?_) fun e s' hs => hs
  have fin : ∀ {σ' : St} {H' : Hp} {v : V} {u : Value}, Inv (cxOf CX P w K mg base N qual scope f cdv A outer s H E) [] σ' H' s' → RelV v u → Q v H' → CE outer P w H s Q u s' :=
    fun {σ' H' v u} J rv q => ⟨v, H', J.os, J.bare, J.base, J.hok, rv, q⟩
  cases fl with
  | ret u =>
    obtain ⟨v, σ', H', J, rv, q⟩ := hs
    exact fin J rv q
  | next =>
    obtain ⟨σ', H', J, q⟩ := hs
    exact fin (v := V.non) (u := Value.none) J rfl q
  | brk =>
    obtain ⟨_, _, _, q⟩ := hs
    exact False.elim q
  | cont =>
    obtain ⟨_, _, _, q⟩ := hs
    exact False.elim q
end L2

namespace L2
open PySem PySem.Spec PyProof.Rows
section
variable {X : Cx} {x : Str} {p pos : Pos} {e : Expr} {es : List Expr} {t : TA} {id T : String} {r : List V → Hp → VK → Prop}

def tCB (r : List V → Hp → VK → Prop) (t : TA) : TE := fun σ H Q => t σ H fun vs H1 => r vs H1 Q
/-- f(e, ..), f a built-in function -/
theorem pe_callB (hc : CallR X (.builtin id) r) (hg : Gl X x) (hm : X.mg x = none) (hv : bootBuiltins x = some (.builtin id)) (ha : PA X (e :: es) t) (hn : x ≠ "__name__" := by decide) (hdb : (x == ("__debug__" : Str)) = false := by decide)
    (he : starEach (e :: es) X.env = (false, eval e X.env) :: starEach es X.env := by rfl) (hpl : (backTo pos (starEach es X.env)).any (·.1) = false := by rfl) : PE X (.Call (.Name x p) (e :: es) [] pos) (tCB r t) := by
  intro pins s σ H Q I h
  refine wpAny_Call_Name_kw (ld_blt I hg hm hv ?_ hn hdb)
  exact PyProof.Rows.callWith_builtin1 (thn (ha pos pins s σ H _ I h) fun us s1 ⟨vs, H1, I1, r1, q1⟩ => hc pins s1 σ H1 vs us Q I1 r1 q1) he hpl
/-- T(e, ..), T a built-in type -/
theorem pe_callTy (hc : CallR X (.type T) r) (hg : Gl X x) (hm : X.mg x = none) (hv : bootBuiltins x = some (.type T)) (ha : PA X (e :: es) t) (hn : x ≠ "__name__" := by decide) (hdb : (x == ("__debug__" : Str)) = false := by decide)
    (he : starEach (e :: es) X.env = (false, eval e X.env) :: starEach es X.env := by rfl) (hpl : (backTo pos (starEach es X.env)).any (·.1) = false := by rfl) : PE X (.Call (.Name x p) (e :: es) [] pos) (tCB r t) := by
  intro pins s σ H Q I h
  refine wpAny_Call_Name_kw (ld_blt I hg hm hv ?_ hn hdb)
  exact PyProof.Rows.callWith_type1 (thn (ha pos pins s σ H _ I h) fun us s1 ⟨vs, H1, I1, r1, q1⟩ => hc pins s1 σ H1 vs us Q I1 r1 q1) he hpl
end
end L2

namespace HT
open PySem PyProof.Rows

section
open PySem.SeqAt
open PySem.AutoSeq1 (wpAny_loadPart')
open PySem.MeetsSeq PySem.MeetsSeq2 PySem.MeetsSeq3

end

section
variable {prog : Program} {w : World} {A : Around} {E : Value → Shared → Prop} {s : Shared}

/-! ### t[a:b], not the whole -/
/-- a slice's bound as a place among n (d where it is left out) -/
def sIx (n d : Nat) : Option Int → Nat
  | none => d
  | some v => if v < 0 then (v + (n : Int)).toNat else min v.toNat n
theorem sIx_none (n d : Nat) : sIx n d none = d := rfl

end
end HT

namespace L2
open PySem PySem.Spec PyProof.Rows

/-! ### the parts of a slice -/
abbrev TO := St → Hp → (Option Int → Hp → Prop) → Prop
inductive PtP (X : Cx) (pins : List (Addr × Obj)) (σ : St) (Q : Option Int → Hp → Prop) (u : Value) (s' : Shared) : Prop
  | mk (o : Option Int) (H' : Hp) (I : Inv X pins σ H' s') (p : IsPart u o) (q : Q o H') : PtP X pins σ Q u s'
/-- a slice's part (left out, or an int) -/
def PO (X : Cx) (e : Option Expr) (t : TO) : Prop :=
  ∀ (pins : List (Addr × Obj)) (s : Shared) (σ : St) (H : Hp) (Q : Option Int → Hp → Prop), Inv X pins σ H s → t σ H Q →
    wpAny (model X.prog X.w) X.A (evalPart e X.env) (fun u s' => PtP X pins σ Q u s') X.xe s
def tNoPart : TO := fun _ H Q => Q none H
inductive PrtP (x : V) (H : Hp) (Q : Option Int → Hp → Prop) : Prop
  | mk (i : Int) (e : x = .int i) (q : Q (some i) H) : PrtP x H Q
def tPart (t : TE) : TO := fun σ H Q => t σ H fun x H1 => PrtP x H1 Q

section
variable {X : Cx} {e : Expr} {te : TE} {lo hi : Option Expr} {tl th : TO} {pos p2 : Pos}

theorem po_none : PO X none tNoPart := by
  intro pins s σ H Q I h
  rw [evalPart_none]
  exact wpAny_pure ⟨none, H, I, .none, h⟩
theorem po_some (h : PE X e te) : PO X (some e) (tPart te) := by
  intro pins s σ H Q I hw
  rw [evalPart_some]
  refine thn (h pins s σ H _ I hw) fun u s1 ⟨x, H1, I1, r1, q1⟩ => ?_
  obtain ⟨i, rfl, q⟩ := q1
  obtain ⟨t, rfl⟩ := r1
  exact ⟨some i, H1, I1, .int i t, q⟩

/-- what a slice of a value is, by values: the slice object stands at sl -/
def SlR (X : Cx) (r : V → Option Int → Option Int → Hp → VK → Prop) : Prop :=
  ∀ (pins : List (Addr × Obj)) (s : Shared) (σ : St) (H : Hp) (x : V) (v vl vu : Value) (lo hi : Option Int) (sl : Addr) (Q : VK), Inv X pins σ H s → RelV x v → s.heap.IsSliceOf sl vl vu .none → IsPart vl lo → IsPart vu hi → r x lo hi H Q →
    ∃ T id, typeLookup (.type T) "__getitem__" = pure (some (.builtin id)) ∧ s.TypeIs v T ∧ wpAny (model X.prog X.w) X.A (getItem v (.ref sl)) (EP X pins σ Q) X.xe s
def tSl (r : V → Option Int → Option Int → Hp → VK → Prop) (te : TE) (tl th : TO) : TE := fun σ H Q => te σ H fun x H1 => tl σ H1 fun l H2 => th σ H2 fun u H3 => r x l u H3 Q
/-- a[lo:hi], any a -/
theorem pe_slice {r : V → Option Int → Option Int → Hp → VK → Prop} (hr : SlR X r) (he : PE X e te) (hl : PO X lo tl) (hu : PO X hi th) : PE X (.Subscript e (.Slice lo hi none p2) pos) (tSl r te tl th) := by
  intro pins s σ H Q I h
  refine Subscript_ (thn (he pins s σ H _ I h) fun v s1 ⟨x, H1, I1, r1, q1⟩ => ?_)
  refine wpAny_Slice (thn (hl pins s1 σ H1 _ I1 q1) fun vl s2 ⟨l, H2, I2, pl, q2⟩ => thn (hu pins s2 σ H2 _ I2 q2) fun vu s3 ⟨u, H3, I3, pu, q3⟩ => ?_)
  rw [evalPart_none]
  refine wpAny_pure ?_
  have I4 : Inv X pins σ H3 { s3 with heap := s3.heap.push { cls := .type "slice", data := .fields #[vl, vu, .none] } } := I3.kept (t' := s3.toks) fun b ob q => Heap.get?_push_of_some _ q
  obtain ⟨T, id, hT, ht, hg⟩ := hr pins { s3 with heap := s3.heap.push { cls := .type "slice", data := .fields #[vl, vu, .none] } } σ H3 x v vl vu l u s3.heap.objs.size Q I4 r1 (Heap.IsSliceOf.new ..) pl pu q3
  show wpAny (model X.prog X.w) X.A (subscriptTail e (.Slice lo hi none p2) v (.ref s3.heap.objs.size)) (EP X pins σ Q) X.xe { s3 with heap := s3.heap.push { cls := .type "slice", data := .fields #[vl, vu, .none] } }
  exact tail_any (ops := [.ref s3.heap.objs.size, v]) ht hT hg (by with_unfolding_all rfl)

/-- the items of xs[lo:hi] -/
def cutV (xs : List V) (lo hi : Option Int) : List V := (xs.drop (HT.sIx xs.length 0 lo)).take (HT.sIx xs.length xs.length hi - HT.sIx xs.length 0 lo)
theorem cutV_length (xs : List V) (lo hi : Option Int) : (cutV xs lo hi).length ≤ xs.length := by
  unfold cutV
  rw [List.length_take, List.length_drop]
  omega

/-! ### t < u, t + u -/
end
end L2

namespace L2
open PySem PySem.Spec PyProof.Rows

/-! ### places -/
/-- the place that an index of any sign means -/
def ixN (n : Nat) (i : Int) : Option Nat := if 0 ≤ i then (if i < n then some i.toNat else none) else if -(n : Int) ≤ i then some (i + n).toNat else none
def atI {α : Type} (xs : List α) (i : Int) : Option α := (ixN xs.length i).bind fun j => xs[j]?
theorem ixN_seq {n : Nat} {i : Int} {j : Nat} (h : ixN n i = some j) : seqIndex? i n = some j ∧ j < n ∧ -(n : Int) ≤ i ∧ i < n := by
  unfold ixN at h
  by_cases h0 : 0 ≤ i
  · rw [if_pos h0] at h
    by_cases h1 : i < n
    · rw [if_pos h1] at h
      have e : i.toNat = j := Option.some.inj h
      exact ⟨by rw [seqIndex_of h0 h1, e], by omega, by omega, h1⟩
    · rw [if_neg h1] at h; cases h
  · rw [if_neg h0] at h
    by_cases h1 : -(n : Int) ≤ i
    · rw [if_pos h1] at h
      have e : (i + n).toNat = j := Option.some.inj h
      exact ⟨by rw [seqIndex_neg (by omega) h1, e], by omega, h1, by omega⟩
    · rw [if_neg h1] at h; cases h
theorem atI_get {α : Type} {xs : List α} {i : Int} {v : α} (h : atI xs i = some v) : ∃ j, seqIndex? i xs.length = some j ∧ xs[j]? = some v ∧ j < xs.length ∧ -(xs.length : Int) ≤ i ∧ i < xs.length := by
  unfold atI at h
  cases e : ixN xs.length i with
  | none => rw [e] at h; cases h
  | some j =>
    rw [e] at h
    obtain ⟨h1, h2, h3, h4⟩ := ixN_seq e
    exact ⟨j, h1, h, h2, h3, h4⟩
theorem atI_nat {α : Type} {xs : List α} {j : Nat} {v : α} (h : xs[j]? = some v) : atI xs (j : Int) = some v := by
  have hj : j < xs.length := (List.getElem?_eq_some_iff.mp h).1
  have e : ixN xs.length (j : Int) = some j := by
    unfold ixN
    rw [if_pos (by omega), if_pos (by omega)]; simp
  unfold atI; rw [e]; exact h

/-! ### what may be subscripted -/
/-- what stands as an index of a plain subscript -/
def PlainIx (b : Expr) : Prop := ∀ o i, subscripted b false o i = operate [o, i] (getItem o i)
/-- a subscript by values -/
def IxR (X : Cx) (r : R2) : Prop :=
  ∀ (value slice : Expr) (pins : List (Addr × Obj)) (s : Shared) (σ : St) (H : Hp) (x y : V) (v u : Value) (Q : VK), Inv X pins σ H s → RelV x v → RelV y u → r x y H Q →
    subscripted slice false v u = operate [v, u] (getItem v u) → wpAny (model X.prog X.w) X.A (subscriptTail value slice v u) (EP X pins σ Q) X.xe s
/-- a call of a builtin's method by values: the receiver, the arguments -/
def MtR (X : Cx) (id : String) (r : V → List V → Hp → VK → Prop) : Prop :=
  ∀ (pins : List (Addr × Obj)) (s : Shared) (σ : St) (H : Hp) (x : V) (xs : List V) (v : Value) (us : List Value) (Q : VK), Inv X pins σ H s → RelV x v → Vals xs us → r x xs H Q →
    wpAny (model X.prog X.w) X.A (call (.builtin id) (v :: us)) (EP X pins σ Q) X.xe s
section
variable {X : Cx} {a b : Expr} {ta tb : TE} {pos : Pos}
/-- a[b] -/
theorem pe_ix {r : R2} (hr : IxR X r) (ha : PE X a ta) (hb : PE X b tb) (hs : PlainIx b) : PE X (.Subscript a b pos) (tOp r ta tb) := by
  intro pins s σ H Q I h
  exact Subscript_ (binT ha hb I h fun v u s2 x y H2 I2 rx ry q => hr a b pins s2 σ H2 x y v u Q I2 rx ry q (hs _ _))

inductive IxLP (K : PySem.W.Frag) (x y : V) (H : Hp) (Q : VK) : Prop
  | mk (p : Addr) (xs : List V) (i : Int) (v : V) (ex : x = .ref p) (ey : y = .int i) (h : SqL K H p xs) (a : atI xs i = some v) (q : Q v H) : IxLP K x y H Q
inductive IxTP (K : PySem.W.Frag) (x y : V) (H : Hp) (Q : VK) : Prop
  | mk (p : Addr) (xs : List V) (i : Int) (v : V) (ex : x = .ref p) (ey : y = .int i) (h : SqT K H p xs) (a : atI xs i = some v) (q : Q v H) : IxTP K x y H Q
def rIxL (K : PySem.W.Frag) : R2 := fun x y H Q => IxLP K x y H Q
def rIxT (K : PySem.W.Frag) : R2 := fun x y H Q => IxTP K x y H Q
theorem ix_list : IxR X (rIxL X.K) := by
  intro value slice pins s σ H x y v u Q I rx ry h hs
  obtain ⟨p, xs, i, z, rfl, rfl, hq, he, q⟩ := h
  cases rx
  obtain ⟨t, rfl⟩ := ry
  obtain ⟨its, r, pl, hz⟩ := I.list hq
  obtain ⟨j, h1, h2, h3, h4, h5⟩ := atI_get he
  obtain ⟨w, ew, rw'⟩ := r.get h2
  have hl := r.length
  have hn := line63
  have fin : EP X pins σ Q w s := ⟨z, H, I, rw', q⟩
  by_cases h0 : 0 ≤ i
  · have hj : i.toNat = j := by
      rw [seqIndex_of h0 h5] at h1
      exact Option.some.inj h1
    exact item_listR pl.isList h0 (by omega) (by rw [hj]; simpa using ew) fin hs
  · have hj : (i + (its.toArray.size : Int)).toNat = j := by
      rw [seqIndex_neg (by omega) h4] at h1
      rw [List.size_toArray, ← hl]
      exact Option.some.inj h1
    exact subscriptTail_builtinR (x := w) pl.isList.typeIs slot_list_getitem.lookup
      (wpAny_getItem_list_neg (Q := fun r s' => r = w ∧ EP X pins σ Q r s') pl.isList (by omega) (by rw [List.size_toArray] <;> omega) (by omega) (by rw [hj]; simpa using ew) ⟨rfl, fin⟩) hs
theorem ix_tup : IxR X (rIxT X.K) := by
  intro value slice pins s σ H x y v u Q I rx ry h hs
  obtain ⟨p, xs, i, z, rfl, rfl, hq, he, q⟩ := h
  cases rx
  obtain ⟨t, rfl⟩ := ry
  obtain ⟨its, r, pl, hz⟩ := I.tuple hq
  obtain ⟨j, h1, h2, h3, h4, h5⟩ := atI_get he
  obtain ⟨w, ew, rw'⟩ := r.get h2
  have hl := r.length
  have hn := line63
  have fin : EP X pins σ Q w s := ⟨z, H, I, rw', q⟩
  exact subscriptTail_builtinR (x := w) pl.typeIs slot_tuple_getitem.lookup
    (getItem_tuple (j := j) (Q := fun r s' => r = w ∧ EP X pins σ Q r s') pl (by omega) (by omega) (by rw [List.size_toArray, ← hl]; exact h1) (by simpa using ew) ⟨rfl, fin⟩) hs

/-! ### xs[i] = v, any sign -/

/-! ### slices -/
theorem slice_bounds (lo hi : Option Int) (n : Nat) : (sliceBounds lo hi none n).1 = ((HT.sIx n 0 lo : Nat) : Int) ∧ (sliceBounds lo hi none n).2.1 = ((HT.sIx n n hi : Nat) : Int) ∧ (sliceBounds lo hi none n).2.2 = 1 := by
  refine ⟨?_, ?_, rfl⟩
  · cases lo with
    | none => simp [sliceBounds, HT.sIx]
    | some i =>
      simp only [sliceBounds, HT.sIx, Option.getD_none, show (1 : Int) > 0 by decide, if_true]
      by_cases h : i < 0
      · simp only [h, if_true] <;> omega
      · simp only [h, if_false] <;> omega
  · cases hi with
    | none => simp [sliceBounds, HT.sIx]
    | some i =>
      simp only [sliceBounds, HT.sIx, Option.getD_none, show (1 : Int) > 0 by decide, if_true]
      by_cases h : i < 0
      · simp only [h, if_true] <;> omega
      · simp only [h, if_false] <;> omega
theorem slicePick_cut (its : List Value) (lo hi : Option Int) : slicePick its.toArray lo hi none = ((its.drop (HT.sIx its.length 0 lo)).take (HT.sIx its.length its.length hi - HT.sIx its.length 0 lo)).toArray := by
  obtain ⟨h1, h2, h3⟩ := slice_bounds lo hi its.toArray.size
  unfold slicePick
  rw [h1, h2, h3]
  simp only [sliceRange_one, pick_run, List.size_toArray] <;> rfl
/-- xs[lo:hi] of a list: a new list -/
inductive SlLP (K : PySem.W.Frag) (x : V) (lo hi : Option Int) (H : Hp) (Q : VK) : Prop
  | mk (a : Addr) (xs : List V) (e : x = .ref a) (h : SqL K H a xs) (q : ∀ p, H p = none → Q (.ref p) (upd H p (.lst (cutV xs lo hi)))) : SlLP K x lo hi H Q
def rSlL (K : PySem.W.Frag) : V → Option Int → Option Int → Hp → VK → Prop := fun x lo hi H Q => SlLP K x lo hi H Q
theorem sl_list : SlR X (rSlL X.K) := by
  intro pins s σ H x v vl vu lo hi sl Q I rx hs pl pu h
  obtain ⟨a, xs, rfl, hx, q⟩ := h
  cases rx
  obtain ⟨its, r, ht, hz⟩ := I.list hx
  have hlen := r.length
  refine ⟨"list", _, slot_list_getitem.lookup, ht.isList.typeIs, ?_⟩
  refine wpAny_getItem_list_slice ht.isList hs pl pu .none (by simp) ?_ (by rw [List.size_toArray] <;> omega)
  rw [slicePick_cut, ← hlen]
  refine ⟨.ref s.heap.objs.size, _, I.laid (t' := s.toks) (o := .lst (cutV xs lo hi)) (fun b ob q => Heap.get?_push_of_some _ q) (Nat.le_refl _) ?_, rfl, q _ (I.hok.fresh (Nat.le_refl _))⟩
  exact ⟨Nat.le_trans (cutV_length xs lo hi) hz, _, 0, (r.drop (HT.sIx xs.length 0 lo)).take (HT.sIx xs.length xs.length hi - HT.sIx xs.length 0 lo), Heap.get?_push_size _ rfl⟩

/-! ### in, not in: flat items -/
def flatV : V → Bool
  | .non => true
  | .bl _ => true
  | .int _ => true
  | .str _ => true
  | _ => false
/-- == of flat values -/
def eqV : V → V → Bool
  | .non, .non => true
  | .bl a, .bl b => a == b
  | .bl a, .int b => (if a then 1 else 0) == b
  | .int a, .bl b => a == (if b then 1 else 0)
  | .int a, .int b => a == b
  | .str a, .str b => a == b
  | _, _ => false
theorem eqAt_V {A : Around} {s : Shared} {y x : V} {u v : Value} (ry : RelV y u) (rx : RelV x v) (fy : flatV y = true) (fx : flatV x = true) : SeqAt.EqAt A s u v (eqV y x) := by
  cases y with
  | non =>
    cases ry
    cases x with
    | non => cases rx; exact SeqAt.EqAt.same _
    | bl b => cases rx; exact SeqAt.EqAt.none_bool b
    | int b => obtain ⟨t, rfl⟩ := rx; exact SeqAt.EqAt.none_int b t
    | str b => obtain ⟨t, rfl⟩ := rx; exact SeqAt.EqAt.none_str b t
    | _ => exact absurd (show false = true from fx) Bool.false_ne_true
  | bl a =>
    cases ry
    cases x with
    | non => cases rx; exact SeqAt.EqAt.bool_none a
    | bl b => cases rx; exact SeqAt.EqAt.bool_bool a b
    | int b => obtain ⟨t, rfl⟩ := rx; exact SeqAt.EqAt.bool_int a b t
    | str b => obtain ⟨t, rfl⟩ := rx; exact SeqAt.EqAt.bool_str a b t
    | _ => exact absurd (show false = true from fx) Bool.false_ne_true
  | int a =>
    obtain ⟨t', rfl⟩ := ry
    cases x with
    | non => cases rx; exact SeqAt.EqAt.int_none a t'
    | bl b => cases rx; exact SeqAt.EqAt.int_bool a t' b
    | int b => obtain ⟨t, rfl⟩ := rx; exact SeqAt.EqAt.int_int a t' b t
    | str b => obtain ⟨t, rfl⟩ := rx; exact SeqAt.EqAt.int_str a t' b t
    | _ => exact absurd (show false = true from fx) Bool.false_ne_true
  | str a =>
    obtain ⟨t', rfl⟩ := ry
    cases x with
    | non => cases rx; exact SeqAt.EqAt.str_none a t'
    | bl b => cases rx; exact SeqAt.EqAt.str_bool a t' b
    | int b => obtain ⟨t, rfl⟩ := rx; exact SeqAt.EqAt.str_int a t' b t
    | str b => obtain ⟨t, rfl⟩ := rx; exact SeqAt.EqAt.str_str a t' b t
    | _ => exact absurd (show false = true from fx) Bool.false_ne_true
  | _ => exact absurd (show false = true from fy) Bool.false_ne_true
/-- the items' answers, read off the values (a value's own answer does not lean on its token) -/
def eqU (x : V) (u : Value) : Bool := match u with
  | .none => eqV .non x
  | .bool b => eqV (.bl b) x
  | .int i _ => eqV (.int i) x
  | .str z _ => eqV (.str z) x
  | _ => false
theorem eqU_of {x y : V} {u : Value} (r : RelV y u) (f : flatV y = true) : eqU x u = eqV y x := by
  cases y with
  | non => cases r; rfl
  | bl b => cases r; rfl
  | int i => obtain ⟨t, rfl⟩ := r; rfl
  | str z => obtain ⟨t, rfl⟩ := r; rfl
  | _ => exact absurd (show false = true from f) Bool.false_ne_true
theorem any_eqU {x : V} : ∀ {xs : List V} {us : List Value}, Vals xs us → xs.all flatV = true → us.any (eqU x) = xs.any fun y => eqV y x
  | _, _, .nil, _ => rfl
  | y :: xs, u :: us, .cons r t, f => by
    rw [List.all_cons, Bool.and_eq_true] at f
    rw [List.any_cons, List.any_cons, eqU_of r f.1, any_eqU t f.2]
theorem mem_eqAt {A : Around} {s : Shared} {x : V} {v : Value} (rx : RelV x v) (fx : flatV x = true) : ∀ {xs : List V} {us : List Value}, Vals xs us → xs.all flatV = true → ∀ u ∈ us, SeqAt.EqAt A s u v (eqU x u)
  | _, _, .nil, _ => fun u hu => by cases hu
  | y :: xs, u :: us, .cons r t, f => fun u' hu => by
    rw [List.all_cons, Bool.and_eq_true] at f
    rcases List.mem_cons.mp hu with rfl | hu
    · rw [eqU_of r f.1]; exact eqAt_V r rx f.1 fx
    · exact mem_eqAt rx fx t f.2 u' hu
def inV (x : V) (xs : List V) : Bool := xs.any fun y => eqV y x
/-- x in a list or tuple of flat items -/
inductive InP (K : PySem.W.Frag) (neg : Bool) (x y : V) (H : Hp) (Q : VK) : Prop
  | mk (p : Addr) (xs : List V) (e : y = .ref p) (h : SqL K H p xs ∨ SqT K H p xs) (f : flatV x = true) (fs : xs.all flatV = true) (q : Q (.bl (if neg then !inV x xs else inV x xs)) H) : InP K neg x y H Q
def rIn (K : PySem.W.Frag) (neg : Bool) : R2 := fun x y H Q => InP K neg x y H Q
theorem op_in_seq : OpR X (compareOp .In) (rIn X.K false) := by
  intro pins s σ H x y v u Q I rx ry h
  obtain ⟨p, xs, rfl, hq, fx, fs, q⟩ := h
  cases ry
  rcases hq with hq | hq
  · obtain ⟨its, r, pl, hz⟩ := I.list hq
    refine SeqAt.in_listAt (eqU x) pl.isList (fun w hw => mem_eqAt rx fx r fs w (by simpa using hw)) ⟨.bl _, H, I, rfl, ?_⟩
    rw [show its.toArray.any (eqU x) = its.any (eqU x) by simp, any_eqU r fs]
    exact q
  · obtain ⟨its, r, pl, hz⟩ := I.tuple hq
    refine SeqAt.in_tupleAt (eqU x) pl (fun w hw => mem_eqAt rx fx r fs w (by simpa using hw)) ⟨.bl _, H, I, rfl, ?_⟩
    rw [show its.toArray.any (eqU x) = its.any (eqU x) by simp, any_eqU r fs]
    exact q
/-! ### len, list(x), tuple(x) of any list or tuple that is read -/
inductive LenP (K : PySem.W.Frag) (xs : List V) (H : Hp) (Q : VK) : Prop
  | mk (p : Addr) (ys : List V) (e : xs = [.ref p]) (h : SqL K H p ys ∨ SqT K H p ys) (q : Q (.int ys.length) H) : LenP K xs H Q
theorem call_len_seq : CallR X (.builtin "len") (fun xs H Q => LenP X.K xs H Q) := by
  intro pins s σ H xs us Q I r h
  obtain ⟨p, ys, rfl, hq, q⟩ := h
  obtain ⟨u, rfl, rx⟩ := vals1 r
  cases rx
  have hn := line63
  rcases hq with hq | hq
  · obtain ⟨its, r', pl, hz⟩ := I.list hq
    have hlen := r'.length
    exact Calls.call_len_list pl.isList (by simp only [List.size_toArray] <;> omega) ⟨.int ys.length, H, I.tok _, ⟨s.toks + 1, by rw [List.size_toArray, hlen]⟩, q⟩
  · obtain ⟨its, r', pl, hz⟩ := I.tuple hq
    have hlen := r'.length
    exact len_tuple pl (by simp only [List.size_toArray] <;> omega) ⟨.int ys.length, H, I.tok _, ⟨s.toks + 1, by rw [List.size_toArray, hlen]⟩, q⟩

/-! ### the call of a builtin's method: o.m(..) -/
/-- the value is of that builtin type -/
def tyV (K : PySem.W.Frag) (T : String) (x : V) (H : Hp) : Prop := match x with
  | .str _ => T = "str"
  | .int _ => T = "int"
  | .ref p => (T = "list" ∧ ∃ xs, SqL K H p xs) ∨ (T = "tuple" ∧ ∃ o, K.lookup p = some o ∧ o.cls = .type "tuple" ∧ o.dict = none) ∨
      (T = "dict" ∧ ((∃ kvs, H p = some (.dK kvs)) ∨ ∃ kvs, H p = some (.dT kvs))) ∨ (T = "set" ∧ ∃ S n, H p = some (.set S n))
  | _ => False
theorem tyV_is {pins : List (Addr × Obj)} {σ : St} {H : Hp} {s : Shared} {T : String} {x : V} {v : Value} (I : Inv X pins σ H s) (r : RelV x v) (ty : tyV X.K T x H) :
    s.TypeIs v T ∧ ∀ a, v = .ref a → ∃ ob, s.heap.get? a = some ob ∧ ob.dict = none := by
  cases x with
  | str z =>
    obtain ⟨t, rfl⟩ := r
    cases (show T = "str" from ty)
    exact ⟨typeIs_str s z t, fun _ e => nomatch e⟩
  | int i =>
    obtain ⟨t, rfl⟩ := r
    cases (show T = "int" from ty)
    exact ⟨typeIs_int s i t, fun _ e => nomatch e⟩
  | ref p =>
    cases r
    rcases ty with ⟨rfl, xs, hq⟩ | ⟨rfl, o, hk, hc, hd⟩ | ⟨rfl, hk⟩ | ⟨rfl, S, n, hk⟩
    · obtain ⟨its, _, pl, _⟩ := I.list hq
      refine ⟨pl.isList.typeIs, fun a e => ?_⟩
      cases e
      obtain ⟨o, n, e, c, hd, _⟩ := pl
      exact ⟨o, e, hd⟩
    · refine ⟨⟨o, I.kIn p o hk, hc⟩, fun a e => ?_⟩
      cases e
      exact ⟨o, I.kIn _ o hk, hd⟩
    · have z : ∃ o, s.heap.get? p = some o ∧ o.ExactDict := by
        rcases hk with ⟨kvs, hk⟩ | ⟨kvs, hk⟩
        · obtain ⟨_, _, _, _, o, _, _, e, ex, _⟩ := I.hok p _ hk
          exact ⟨o, e, ex⟩
        · obtain ⟨_, _, _, _, o, _, _, e, ex, _⟩ := I.hok p _ hk
          exact ⟨o, e, ex⟩
      obtain ⟨o, e, ex⟩ := z
      refine ⟨⟨o, e, ex.1⟩, fun a e2 => ?_⟩
      cases e2
      exact ⟨o, e, ex.2.1⟩
    · obtain ⟨o, _, _, _, e, ex, _⟩ := I.hok p _ hk
      refine ⟨⟨o, e, ex.1⟩, fun a e2 => ?_⟩
      cases e2
      exact ⟨o, e, ex.2.1⟩
  | _ => exact False.elim ty
def tBM0 (K : PySem.W.Frag) (T : String) (r : V → List V → Hp → VK → Prop) (to : TE) : TE := fun σ H Q => to σ H fun x H1 => tyV K T x H1 ∧ r x [] H1 Q
def tBM (K : PySem.W.Frag) (T : String) (r : V → List V → Hp → VK → Prop) (to : TE) (t : TA) : TE := fun σ H Q => to σ H fun x H1 => tyV K T x H1 ∧ t σ H1 fun xs H2 => r x xs H2 Q
variable {o e : Expr} {es : List Expr} {to : TE} {t : TA} {name : Str} {apos cpos : Pos} {T id : String} {r : V → List V → Hp → VK → Prop}
theorem pe_bm0 (pa : PlainAttrs T) (slot : Slot T name id) (hty : typeOf (.builtin id) = pure (.type "method_descriptor")) (hm : MtR X id r) (ho : PE X o to)
    (hbase : attributeBase o name X.env (eval o X.env) = eval o X.env := by rfl) (hline : (apos.endLine == cpos.line) = true := by rfl) : PE X (.Call (.Attribute o name apos) [] [] cpos) (tBM0 X.K T r to) := by
  intro pins s σ H Q I h
  refine wpAny_Call_method0_late hbase hline (thn (ho pins s σ H _ I h) fun v s1 ⟨x, H1, I1, r1, ty, q1⟩ => ?_)
  obtain ⟨h1, h2⟩ := tyV_is I1 r1 ty
  exact ⟨T, id, pa, slot, hty, h1, h2, Calls.callWith_builtin rfl (PySem.evalArgs_none (hm pins s1 σ H1 x [] v [] Q I1 r1 .nil q1))⟩
theorem pe_bm (pa : PlainAttrs T) (slot : Slot T name id) (hty : typeOf (.builtin id) = pure (.type "method_descriptor")) (hm : MtR X id r) (ho : PE X o to) (ha : PA X (e :: es) t)
    (hbase : attributeBase o name X.env (eval o X.env) = eval o X.env := by rfl)
    (hfew : ((backTo cpos (starEach (e :: es) X.env)).all (fun x => !x.1) && (backToKw cpos (keywordEach [] X.env)).all (fun x => x.1.isSome)
      && decide ((e :: es).length + ([] : List Keyword).length + (if ([] : List Keyword).isEmpty then 0 else 1) < 30)) = true := by rfl)
    (hline : (apos.endLine == cpos.line) = true := by rfl) (hs : starEach (e :: es) X.env = (false, eval e X.env) :: starEach es X.env := by rfl) (hplain : (backTo cpos (starEach es X.env)).any (·.1) = false := by rfl) :
    PE X (.Call (.Attribute o name apos) (e :: es) [] cpos) (tBM X.K T r to t) := by
  intro pins s σ H Q I h
  refine wpAny_Call_method_late hbase hfew hline rfl (thn (ho pins s σ H _ I h) fun v s1 ⟨x, H1, I1, r1, ty, q1⟩ => ?_)
  obtain ⟨h1, h2⟩ := tyV_is I1 r1 ty
  refine ⟨T, id, pa, slot, hty, h1, h2, ?_⟩
  have hA := ha cpos pins s1 σ H1 _ I1 q1
  rw [hs] at hA ⊢
  refine Calls.callWith_builtin (by show (false || (backTo cpos (starEach es X.env)).any (·.1)) = false; rw [hplain] <;> rfl) (Calls.evalArgs_plain ?_)
  exact thn hA fun us s2 ⟨vs, H2, I2, r2, q2⟩ => hm pins s2 σ H2 x vs v us Q I2 r1 r2 q2
/- xs.append(e), list.index on a module's tuple .. are MtR facts of 06m -/
end
end L2

namespace L2
open PySem PySem.Spec PyProof.Rows

def MtM (X : Cx) (id : String) (r : V → List V → Hp → VK → Prop) : Prop :=
  ∀ (pins : List (Addr × Obj)) (s : Shared) (σ : St) (H : Hp) (x : V) (xs : List V) (v : Value) (us : List Value) (Q : VK), Inv X pins σ H s → RelV x v → Vals xs us → r x xs H Q →
    wpAny (model X.prog X.w) X.A (call (.builtin id) (v :: us)) (EP X pins σ Q) X.xe s

/-! ### lists of values -/
theorem Vals.one : ∀ {x : V} {us : List Value}, Vals [x] us → ∃ u, us = [u] ∧ RelV x u
  | _, _, .cons r .nil => ⟨_, rfl, r⟩
theorem Vals.zero : ∀ {us : List Value}, Vals [] us → us = []
  | _, .nil => rfl
theorem Vals.dropLast {xs : List V} {us : List Value} (h : Vals xs us) : Vals xs.dropLast us.dropLast := by
  induction h with
  | nil => exact .nil
  | cons r t ih =>
    cases t with
    | nil => exact .nil
    | cons q t' => exact .cons r ih
theorem erase_last {α : Type} (l : List α) : l.eraseIdx (l.length - 1) = l.dropLast := by
  induction l with
  | nil => rfl
  | cons a r ih =>
    cases r with
    | nil => rfl
    | cons b r =>
      have e : (a :: b :: r).length - 1 = ((b :: r).length - 1) + 1 := by
        rfl
      rw [e, List.eraseIdx_cons_succ, ih]
      all_goals rfl

section
variable {X : Cx} {pins : List (Addr × Obj)} {σ : St} {H : Hp} {s : Shared} {l b : Addr} {xs ys zs : List V}

/-! ### the two steps: a tracked list is rewritten, a new list is laid -/
theorem Inv.lset {its its' : List Value} {n : Nat} {f : Array Value → Array Value} {t' : Nat} (I : Inv X pins σ H s) (hH : H l = some (.lst xs))
    (e : s.heap.get? l = some { cls := .type "list", data := .seq its.toArray n }) (hf : f its.toArray = its'.toArray) (hv : Vals ys its') (hz : ys.length ≤ sizeLine) :
    Inv X pins σ (upd H l (.lst ys)) { s with heap := s.heap.update l (Obj.mapSeq f), toks := t' } := by
  have q := PySem.IsL.update e f
  rw [hf] at q
  refine I.write (x := l) (e := l) (by rw [hH]; exact trivial) (.inl rfl) (fun b' u hb hu => (Heap.get?_update_other s.heap (Obj.mapSeq f) (Ne.symm hb)).trans hu) ⟨_, q⟩ ?_
  exact ⟨hz, its', _, hv, q⟩
theorem Inv.lnew {its : List Value} {t' : Nat} (I : Inv X pins σ H s) (hv : Vals ys its) (hz : ys.length ≤ sizeLine) :
    Inv X pins σ (upd H s.heap.objs.size (.lst ys)) { s with heap := s.heap.push { cls := .type "list", data := .seq its.toArray }, toks := t' } :=
  I.laid (fun _ _ q => Heap.get?_push_of_some _ q) (Nat.le_refl _) ⟨hz, its, 0, hv, Heap.get?_push_size _ rfl⟩
theorem Inv.fresh (I : Inv X pins σ H s) : H s.heap.objs.size = none := I.hok.fresh (Nat.le_refl _)
theorem Inv.lstM (I : Inv X pins σ H s) (hH : H l = some (.lst xs)) : xs.length ≤ sizeLine ∧ ∃ (its : List Value) (n : Nat), Vals xs its ∧ xs.length = its.length ∧ s.heap.get? l = some { cls := .type "list", data := .seq its.toArray n } := by
  obtain ⟨z, its, n, r, e⟩ := I.hok l _ hH
  exact ⟨z, its, n, r, r.length, e⟩

theorem notLongL {n : Nat} (h : n ≤ sizeLine) : Builtin.List.listTooLong n = false := by
  unfold Builtin.List.listTooLong
  exact decide_eq_false (by omega)
end

section
variable {X : Cx}

/-! ### methods -/
inductive AppP (x : V) (vs : List V) (H : Hp) (Q : VK) : Prop
  | mk (l : Addr) (xs : List V) (y : V) (e : x = .ref l) (ev : vs = [y]) (h : H l = some (.lst xs)) (z : xs.length < sizeLine) (q : Q .non (upd H l (.lst (xs ++ [y])))) : AppP x vs H Q
def rAppend : V → List V → Hp → VK → Prop := fun x vs H Q => AppP x vs H Q
theorem mt_append : MtM X "list.append" rAppend := by
  intro pins s σ H x vs v us Q I rx rv h
  obtain ⟨l, xs, y, rfl, rfl, hH, hz, q⟩ := h
  cases rx
  obtain ⟨u, rfl, ru⟩ := rv.one
  obtain ⟨z, its, n, r, hl, e⟩ := I.lstM hH
  refine call_meets F.slot_list_append ⟨_, e, rfl⟩ F.entry_list_append (F.args_list_append_2 _ _) (PySem.list_append l its.toArray n u (by rw [List.size_toArray]; omega)) ⟨e, ?_⟩
  refine ⟨.non, _, I.lset (its' := its ++ [u]) hH e (by simp) (r.append (.cons ru .nil)) ?_, rfl, q⟩
  rw [List.length_append, List.length_singleton]
  omega

inductive XtdP (x : V) (vs : List V) (H : Hp) (Q : VK) : Prop
  | mk (l b : Addr) (xs zs : List V) (e : x = .ref l) (ev : vs = [.ref b]) (h : H l = some (.lst xs)) (h2 : H b = some (.lst zs)) (z : xs.length + zs.length ≤ sizeLine) (q : Q .non (upd H l (.lst (xs ++ zs)))) : XtdP x vs H Q
def rExtend : V → List V → Hp → VK → Prop := fun x vs H Q => XtdP x vs H Q
theorem mt_extend : MtM X "list.extend" rExtend := by
  intro pins s σ H x vs v us Q I rx rv h
  obtain ⟨l, b, xs, zs, rfl, rfl, hH, hB, hz, q⟩ := h
  cases rx
  obtain ⟨u, rfl, ru⟩ := rv.one
  cases ru
  obtain ⟨z, its, n, r, hl, e⟩ := I.lstM hH
  obtain ⟨z2, its2, n2, r2, hl2, e2⟩ := I.lstM hB
  have hsz : its.toArray.size + its2.toArray.size ≤ sizeLine := by rw [List.size_toArray, List.size_toArray]; omega
  have hlong : ¬ (!its.toArray.isEmpty && Builtin.List.listTooLong (its.toArray.size + its2.toArray.size)) = true := by
    rw [notLongL hsz, Bool.and_false]
    exact Bool.false_ne_true
  refine call_meets F.slot_list_extend ⟨_, e, rfl⟩ F.entry_list_extend (F.args_list_extend_2 _ _)
    (AutoSeq1.list_extend_list_list_0 l its.toArray n b its2.toArray n2 hlong (by rw [List.size_toArray]; omega) (by omega)) ⟨e, e2, ?_⟩
  refine ⟨.non, _, I.lset (its' := its ++ its2) hH e (by simp) (r.append r2) ?_, rfl, q⟩
  rw [List.length_append]
  omega

inductive PopP (x : V) (vs : List V) (H : Hp) (Q : VK) : Prop
  | mk (l : Addr) (xs : List V) (y : V) (e : x = .ref l) (ev : vs = []) (h : H l = some (.lst xs)) (g : xs[xs.length - 1]? = some y) (q : Q y (upd H l (.lst xs.dropLast))) : PopP x vs H Q
def rPop : V → List V → Hp → VK → Prop := fun x vs H Q => PopP x vs H Q
theorem mt_pop : MtM X "list.pop" rPop := by
  intro pins s σ H x vs v us Q I rx rv h
  obtain ⟨l, xs, y, rfl, rfl, hH, hy, q⟩ := h
  cases rx
  have hus := rv.zero
  subst hus
  obtain ⟨z, its, n, r, hl, e⟩ := I.lstM hH
  obtain ⟨u, hu, ru⟩ := r.get hy
  have hy' : its.toArray[its.toArray.size - 1]? = some u := by
    show its.toArray[its.length - 1]? = some u
    rw [← Array.getElem?_toList, ← hl]
    exact hu
  refine call_meets F.slot_list_pop ⟨_, e, rfl⟩ F.entry_list_pop (F.args_list_pop_1 _) (MeetsSeq.list_pop_last l its.toArray n u hy' (by rw [List.size_toArray]; omega)) ⟨e, ?_⟩
  refine ⟨y, _, I.lset (its' := its.dropLast) hH e ?_ r.dropLast ?_, ru, q⟩
  · show its.toArray.eraseIdxIfInBounds (its.toArray.size - 1) = its.dropLast.toArray
    rw [List.size_toArray, List.eraseIdxIfInBounds_toArray, erase_last]
  · rw [List.length_dropLast]
    omega

/-! ### list + list, list += list, list * int -/
inductive CatP (x y : V) (H : Hp) (Q : VK) : Prop
  | mk (l b : Addr) (xs zs : List V) (e : x = .ref l) (e2 : y = .ref b) (h : H l = some (.lst xs)) (h2 : H b = some (.lst zs)) (z : xs.length + zs.length ≤ sizeLine) (q : ∀ p, H p = none → Q (.ref p) (upd H p (.lst (xs ++ zs)))) : CatP x y H Q
def rCat : R2 := fun x y H Q => CatP x y H Q
theorem op_cat : OpR X (binaryOp .Add) rCat := by
  intro pins s σ H x y v u Q I rx ry h
  obtain ⟨l, b, xs, zs, rfl, rfl, hH, hB, hz, q⟩ := h
  cases rx
  cases ry
  obtain ⟨z, its, n, r, hl, e⟩ := I.lstM hH
  obtain ⟨z2, its2, n2, r2, hl2, e2⟩ := I.lstM hB
  refine PySem.P.add_list e e2 ?_ (by rw [List.size_toArray, List.size_toArray]; omega)
  have ea : its.toArray ++ its2.toArray = (its ++ its2).toArray := by simp
  rw [ea]
  exact ⟨.ref _, _, I.lnew (t' := s.toks) (r.append r2) (by rw [List.length_append]; omega), rfl, q _ I.fresh⟩

/-! ### del xs[i] -/
end

/-! ### xs[a:b] = ys -/
section
variable {prog : Program} {w : World} {A : Around} {E : Value → Shared → Prop} {s : Shared}
end

section
variable {X : Cx}
end
end L2

namespace L2
open PySem PySem.Spec PyProof.Rows

theorem Vals.ints : ∀ {ns : List Int} {us : List Value}, Vals (ns.map V.int) us → IntsAre us ns
  | [], us, h => by
    rw [List.map_nil] at h
    cases h
    exact IntsAre.nil
  | n :: ns, us, h => by
    rw [List.map_cons] at h
    cases h with
    | cons r t =>
      obtain ⟨k, rfl⟩ := r
      exact IntsAre.cons n k (Vals.ints t)
theorem vals_of_ints : ∀ {us : List Value} {ns : List Int}, IntsAre us ns → Vals (ns.map V.int) us
  | _, _, .nil => by rw [List.map_nil]; exact Paired.nil
  | _, _, .cons n t h => by rw [List.map_cons]; exact Paired.cons (show RelV (V.int n) (Value.int n t) from ⟨t, rfl⟩) (vals_of_ints h)
theorem Vals.bls : ∀ {bs : List Bool} {us : List Value}, Vals (bs.map V.bl) us → us = bs.map Value.bool
  | [], us, h => by
    rw [List.map_nil] at h
    cases h
    rfl
  | b :: bs, us, h => by
    rw [List.map_cons] at h
    cases h with
    | cons r t =>
      cases r
      rw [Vals.bls t, List.map_cons]
theorem Vals.ref1 {a : Addr} {us : List Value} (r : Vals [V.ref a] us) : us = [Value.ref a] := by
  cases r with
  | cons r t =>
    cases t
    cases r
    rfl

/-! ### the library's walks over a list of ints, kept objects alone -/
section
variable {prog : Program} {w : World} {A : Around} {E : Value → Shared → Prop} {s : Shared} {l : Addr} {its : List Value} {ns : List Int} {Q : Value → Shared → Prop}
end

/-! ### the calls, by values (CallR of 03t; MtR of 06l) -/
section
variable {X : Cx}

/-! sorted, sort (fewer than 64 items: the library's own bound) -/
theorem small64 {n : Nat} (h : n < 64) : n ≤ sizeLine := by rw [sizeLine_eq]; omega
end

/-! ### list.index, flat items -/
section
variable {X : Cx}
end

/-! ### type(x) of an own instance; is, is not of a module's class -/
section
variable {X : Cx}
end

/-! ### any(xs), all(xs) of a list of bools -/
theorem iter_any {prog : Program} {w : World} {A : Around} {E : Value → Shared → Prop} {s : Shared} {l : Addr} {items : Array Value} {Q : Value → Shared → Prop} (hl : s.heap.IsList l items)
    (h : ∀ s₂ : Shared, s₂ = { s with heap := s.heap.push { cls := .type "list_iterator", data := .fields #[.ref l, .int 0 0] } } →
      (s₂.heap.IsListIter s.heap.objs.size l 0 ∧ s₂.heap.IsList l items) → l ≠ s.heap.objs.size → Q (.ref s.heap.objs.size) s₂) : wpAny (model prog w) A (pyIter (.ref l)) Q E s := by
  have hlt : l < s.heap.objs.size := by obtain ⟨_, e, _⟩ := hl; exact Heap.lt_size e
  exact wpAny_pyIter_list hl (h _ rfl ⟨⟨_, Heap.get?_push_size _ rfl, rfl, rfl⟩, hl.push _⟩ (Nat.ne_of_lt hlt))
theorem truth_bools {prog : Program} {w : World} {A : Around} {bs : List Bool} {its : List Value} (e : its = bs.map Value.bool) :
    TruthOf prog w A (fun i v => its.toArray[i]? = some v) (fun i => bs.getD i false) := fun i v s Q E hv hq => by
  have hv' : its[i]? = some v := by simpa using hv
  rw [e, List.getElem?_map] at hv'
  obtain ⟨b, hb, rfl⟩ := Option.map_eq_some_iff.mp hv'
  have hg : bs.getD i false = b := by rw [List.getD_eq_getElem?_getD, hb] <;> rfl
  have hq' : Q (bs.getD i false) s := hq
  rw [hg] at hq'
  exact wpAny_truthy_bool hq'
theorem any_range : ∀ bs : List Bool, (List.range bs.length).any (fun i => bs.getD i false) = bs.any id
  | [] => rfl
  | b :: bs => by
    rw [List.length_cons, List.range_succ_eq_map, List.any_cons, List.any_map, List.any_cons, ← any_range bs]
    all_goals rfl
theorem all_range : ∀ bs : List Bool, (List.range bs.length).all (fun i => bs.getD i false) = bs.all id
  | [] => rfl
  | b :: bs => by
    rw [List.length_cons, List.range_succ_eq_map, List.all_cons, List.all_map, List.all_cons, ← all_range bs]
    all_goals rfl
section
variable {X : Cx}
inductive AnyP (K : PySem.W.Frag) (vs : List V) (H : Hp) (Q : VK) : Prop
  | mk (a : Addr) (bs : List Bool) (e : vs = [V.ref a]) (h : SqL K H a (bs.map V.bl)) (q : Q (.bl (bs.any id)) H) : AnyP K vs H Q
def rAny (K : PySem.W.Frag) : List V → Hp → VK → Prop := fun vs H Q => AnyP K vs H Q
inductive AllP (K : PySem.W.Frag) (vs : List V) (H : Hp) (Q : VK) : Prop
  | mk (a : Addr) (bs : List Bool) (e : vs = [V.ref a]) (h : SqL K H a (bs.map V.bl)) (q : Q (.bl (bs.all id)) H) : AllP K vs H Q
def rAll (K : PySem.W.Frag) : List V → Hp → VK → Prop := fun vs H Q => AllP K vs H Q
theorem cr_any (hc : X.calm = true) : CallR X (.builtin "any") (rAny X.K) := by
  intro pins s σ H vs us Q I r h
  obtain ⟨a, bs, rfl, hs, q⟩ := h
  obtain ⟨its, rv, hl, _⟩ := I.list hs
  rw [Vals.ref1 r]
  have hb := rv.bls
  refine call_any_walk (iter_any hl.isList fun s₂ e2 st hne => ?_)
  subst e2
  refine ⟨_, _, _, _, _, _, _, rfl, Walks.list (A := X.A.in1) (I.ok.hd hc) _ a hne its.toArray, st, truth_bools hb, fun h' tk hk => ?_⟩
  refine ⟨.bl _, H, I.kept fun b o eo => hk b o (fun hmem => ?_) (Heap.get?_push_of_some _ eo), ?_, q⟩
  · rcases List.mem_cons.mp hmem with e1 | hmem
    · exact absurd (e1 ▸ Heap.lt_size eo) (Nat.lt_irrefl _)
    · cases hmem
  · show Value.bool _ = Value.bool _
    rw [← any_range, hb, List.size_toArray, List.length_map]
theorem cr_all (hc : X.calm = true) : CallR X (.builtin "all") (rAll X.K) := by
  intro pins s σ H vs us Q I r h
  obtain ⟨a, bs, rfl, hs, q⟩ := h
  obtain ⟨its, rv, hl, _⟩ := I.list hs
  rw [Vals.ref1 r]
  have hb := rv.bls
  refine call_all_walk (iter_any hl.isList fun s₂ e2 st hne => ?_)
  subst e2
  refine ⟨_, _, _, _, _, _, _, rfl, Walks.list (A := X.A.in1) (I.ok.hd hc) _ a hne its.toArray, st, truth_bools hb, fun h' tk hk => ?_⟩
  refine ⟨.bl _, H, I.kept fun b o eo => hk b o (fun hmem => ?_) (Heap.get?_push_of_some _ eo), ?_, q⟩
  · rcases List.mem_cons.mp hmem with e1 | hmem
    · exact absurd (e1 ▸ Heap.lt_size eo) (Nat.lt_irrefl _)
    · cases hmem
  · show Value.bool _ = Value.bool _
    rw [← all_range, hb, List.size_toArray, List.length_map]
end

/-! ### == and != of data at any depth: none, bools, ints, texts, lists, tuples -/
mutual
inductive Dp (K : PySem.W.Frag) (H : Hp) : V → PyData → Prop
  | non : Dp K H .non .none
  | bl (b : Bool) : Dp K H (.bl b) (.bool b)
  | int (i : Int) : Dp K H (.int i) (.int i)
  | str (x : Str) : Dp K H (.str x) (.str x)
  | lst {a : Addr} {xs : List V} {ds : List PyData} : SqL K H a xs → DpAll K H xs ds → Dp K H (.ref a) (.list ds)
  | tup {a : Addr} {xs : List V} {ds : List PyData} : SqT K H a xs → DpAll K H xs ds → Dp K H (.ref a) (.tuple ds)
inductive DpAll (K : PySem.W.Frag) (H : Hp) : List V → List PyData → Prop
  | nil : DpAll K H [] []
  | cons {v : V} {vs : List V} {d : PyData} {ds : List PyData} : Dp K H v d → DpAll K H vs ds → DpAll K H (v :: vs) (d :: ds)
end
section
variable {X : Cx} {pins : List (Addr × Obj)} {σ : St} {H : Hp} {s : Shared}
mutual
theorem Dp.reads (I : Inv X pins σ H s) : ∀ (d : PyData) (v : V) (u : Value), Dp X.K H v d → RelV v u → ∃ as, Reads s.heap u d as
  | .none, _, _, h, r => by
    cases h
    cases r
    exact ⟨_, Reads.none⟩
  | .bool b, _, _, h, r => by
    cases h
    cases r
    exact ⟨_, Reads.bool b⟩
  | .int i, _, _, h, r => by
    cases h
    obtain ⟨t, rfl⟩ := r
    exact ⟨_, Reads.int i t⟩
  | .str x, _, _, h, r => by
    cases h
    obtain ⟨t, rfl⟩ := r
    exact ⟨_, Reads.str x t⟩
  | .list ds, _, _, h, r => by
    cases h with
    | lst hs ha =>
      cases r
      obtain ⟨its, rv, ⟨o, n, ho, hc, _, hd⟩, _⟩ := I.list hs
      obtain ⟨as, hr⟩ := Dp.readsAll I ds _ its ha rv
      exact ⟨_, Reads.list ho hc hd hr⟩
  | .tuple ds, _, _, h, r => by
    cases h with
    | tup hs ha =>
      cases r
      obtain ⟨its, rv, ⟨o, ho, hc, n, hd⟩, _⟩ := I.tuple hs
      obtain ⟨as, hr⟩ := Dp.readsAll I ds _ its ha rv
      exact ⟨_, Reads.tuple ho hc hd hr⟩
  | .dict _, _, _, h, _ => by cases h
theorem Dp.readsAll (I : Inv X pins σ H s) : ∀ (ds : List PyData) (vs : List V) (us : List Value), DpAll X.K H vs ds → Vals vs us → ∃ as, ReadsAll s.heap us ds as
  | [], _, _, h, r => by
    cases h
    cases r
    exact ⟨_, ReadsAll.nil⟩
  | d :: ds, _, _, h, r => by
    cases h with
    | cons h1 h2 =>
      cases r with
      | cons r1 r2 =>
        obtain ⟨as, q1⟩ := Dp.reads I d _ _ h1 r1
        obtain ⟨bs, q2⟩ := Dp.readsAll I ds _ _ h2 r2
        exact ⟨_, ReadsAll.cons q1 q2⟩
end
end
section
variable {X : Cx}
inductive NeDP (K : PySem.W.Frag) (x y : V) (H : Hp) (Q : VK) : Prop
  | mk (d e : PyData) (hd : Dp K H x d) (he : Dp K H y e) (sd : SeqAt.shaped d = true) (se : SeqAt.shaped e = true) (q : Q (.bl (!PyData.eqv d e)) H) : NeDP K x y H Q
def rNeD (K : PySem.W.Frag) : R2 := fun x y H Q => NeDP K x y H Q
theorem op_neD (hu : X.A.units + 64 < cLine) : OpR X (compareOp .NotEq) (rNeD X.K) := by
  intro pins s σ H x y v u Q I rx ry h
  obtain ⟨d, e, hd, he, sd, se, q⟩ := h
  obtain ⟨as, r1⟩ := Dp.reads I d x v hd rx
  obtain ⟨bs, r2⟩ := Dp.reads I e y u he ry
  exact SeqAt.compareNe_shaped r1 r2 sd se hu ⟨.bl _, H, I, rfl, q⟩
end
end L2

namespace L2
open PySem PySem.Spec PyProof.Rows
abbrev CellAt (h : Heap) (c : Addr) (v : Option Value) : Prop := h.IsCell c v
def relS (scope sc : Scope) : Scope :=
  { scope with names := scope.names.map fun (n, k) => if (k == .free && sc.kind == .function && sc.names.lookup n == some .cell) then (n, .cell) else (n, k) }

def cloFrom (cells : List (Str × Addr)) : List (Str × NameKind) → List (Str × Addr) → List (Str × Addr)
  | [], acc => acc
  | (n, k) :: r, acc => if k == .free then cloFrom cells r ((n, (cells.lookup n).getD 0) :: acc) else cloFrom cells r acc

theorem closure_loop (env : Env) (f : Str × NameKind → List (Str × Addr) → Sem (ForInStep (List (Str × Addr))))
    (hf : ∀ n k c, f (n, k) c = if k == .free then (do let a ← cellOf env n; pure (.yield ((n, a) :: c))) else pure (.yield c)) :
    ∀ (names : List (Str × NameKind)) (acc : List (Str × Addr)), (∀ y ∈ names, y.2 = .free → ∃ c, env.cells.lookup y.1 = some c) → forIn names acc f = pure (cloFrom env.cells names acc)
  | [], acc, _ => by rw [List.forIn_nil]; rfl
  | (n, k) :: r, acc, h => by
    rw [List.forIn_cons, hf]
    have ih := fun acc => closure_loop env f hf r acc fun y hy => h y (List.mem_cons_of_mem _ hy)
    unfold cloFrom
    by_cases hk : (k == NameKind.free) = true
    · rw [if_pos hk, if_pos hk]
      obtain ⟨c, hc⟩ := h (n, k) List.mem_cons_self (by simpa using hk)
      have e : cellOf env n = pure c := by unfold cellOf; rw [hc]
      rw [e]
      have e2 : (env.cells.lookup n).getD 0 = c := by rw [hc]; rfl
      rw [e2]
      exact ih _
    · rw [if_neg hk, if_neg hk]
      exact ih _
theorem closure_ok {scope : Scope} {env : Env} (h : ∀ y ∈ scope.names, y.2 = .free → ∃ c, env.cells.lookup y.1 = some c) : closureFor scope env = pure (cloFrom env.cells scope.names []) := by
  simp only [closureFor]
  rw [closure_loop env _ (fun n k c => rfl) scope.names [] h]
  rfl

theorem mem_lookup {α : Type} : ∀ {l : List (Str × α)} {n : Str} {c : α}, (n, c) ∈ l → ∃ c', l.lookup n = some c'
  | (k, v) :: r, n, c, h => by
    rw [List.lookup_cons]
    cases hb : n == k with
    | true => exact ⟨_, rfl⟩
    | false =>
      rcases List.mem_cons.mp h with e | h
      · cases e; simp at hb
      · exact mem_lookup h

theorem cloFrom_mem {cells : List (Str × Addr)} : ∀ {names : List (Str × NameKind)} {acc : List (Str × Addr)} {n : Str} {c : Addr}, (n, c) ∈ cloFrom cells names acc → (n, c) ∈ acc ∨ ((n, .free) ∈ names ∧ c = (cells.lookup n).getD 0)
  | [], _, _, _, h => .inl h
  | (m, k) :: r, acc, n, c, h => by
    unfold cloFrom at h
    split at h
    · rename_i hk
      have hk : k = .free := by simpa using hk
      rcases cloFrom_mem h with h | ⟨h1, h2⟩
      · rcases List.mem_cons.mp h with e | h
        · cases e; exact .inr ⟨hk ▸ List.mem_cons_self, rfl⟩
        · exact .inl h
      · exact .inr ⟨List.mem_cons_of_mem _ h1, h2⟩
    · rcases cloFrom_mem h with h | ⟨h1, h2⟩
      · exact .inl h
      · exact .inr ⟨List.mem_cons_of_mem _ h1, h2⟩
theorem cloFrom_acc {cells : List (Str × Addr)} : ∀ {names : List (Str × NameKind)} {acc : List (Str × Addr)} {p : Str × Addr}, p ∈ acc → p ∈ cloFrom cells names acc
  | [], _, _, h => h
  | (m, k) :: r, acc, p, h => by
    unfold cloFrom
    split
    · exact cloFrom_acc (List.mem_cons_of_mem _ h)
    · exact cloFrom_acc h
theorem cloFrom_has {cells : List (Str × Addr)} : ∀ {names : List (Str × NameKind)} {acc : List (Str × Addr)} {n : Str}, (n, .free) ∈ names → (n, (cells.lookup n).getD 0) ∈ cloFrom cells names acc
  | (m, k) :: r, acc, n, h => by
    unfold cloFrom
    rcases List.mem_cons.mp h with e | h
    · cases e
      exact cloFrom_acc List.mem_cons_self
    · split
      · exact cloFrom_has h
      · exact cloFrom_has h

theorem cells_mem : ∀ {names : List (Str × NameKind)} {h : Heap} {acc : List (Str × Addr)} {x : Str} {c : Addr}, (x, c) ∈ cellsFrom h.objs.size names acc →
    (x, c) ∈ acc ∨ ((x, .cell) ∈ names ∧ h.objs.size ≤ c ∧ CellAt (pushCells h names) c none)
  | [], _, _, _, _, h => .inl h
  | (n, k) :: r, h, acc, x, c, hm => by
    unfold cellsFrom at hm
    unfold pushCells
    split at hm
    · rename_i hk
      rw [if_pos hk]
      have hk : k = .cell := by simpa using hk
      rw [← Heap.size_push h { cls := .type "cell", data := .cell none }] at hm
      rcases cells_mem hm with hm | ⟨h1, h2, h3⟩
      · rcases List.mem_cons.mp hm with e | hm
        · cases e
          exact .inr ⟨hk ▸ List.mem_cons_self, Nat.le_refl _, _, pushCells_keeps r _ _ _ (Heap.get?_push_size _ rfl), rfl⟩
        · exact .inl hm
      · rw [Heap.size_push] at h2
        exact .inr ⟨List.mem_cons_of_mem _ h1, Nat.le_of_succ_le h2, h3⟩
    · rename_i hk
      rw [if_neg hk]
      rcases cells_mem hm with hm | ⟨h1, h2, h3⟩
      · exact .inl hm
      · exact .inr ⟨List.mem_cons_of_mem _ h1, h2, h3⟩
theorem cells_acc : ∀ {names : List (Str × NameKind)} {n : Nat} {acc : List (Str × Addr)} {p : Str × Addr}, p ∈ acc → p ∈ cellsFrom n names acc
  | [], _, _, _, h => h
  | (m, k) :: r, n, acc, p, h => by
    unfold cellsFrom
    split
    · exact cells_acc (List.mem_cons_of_mem _ h)
    · exact cells_acc h
theorem cells_has : ∀ {names : List (Str × NameKind)} {n : Nat} {acc : List (Str × Addr)} {x : Str}, (x, .cell) ∈ names → ∃ c, (x, c) ∈ cellsFrom n names acc
  | (m, k) :: r, n, acc, x, h => by
    unfold cellsFrom
    rcases List.mem_cons.mp h with e | h
    · cases e
      exact ⟨n, cells_acc List.mem_cons_self⟩
    · split
      · exact cells_has h
      · exact cells_has h
theorem cells_inj : ∀ {names : List (Str × NameKind)} {h : Heap} {acc : List (Str × Addr)} {x y : Str} {c : Addr}, (∀ p ∈ acc, p.2 < h.objs.size) → (∀ x y c, (x, c) ∈ acc → (y, c) ∈ acc → x = y) →
    (x, c) ∈ cellsFrom h.objs.size names acc → (y, c) ∈ cellsFrom h.objs.size names acc → x = y
  | [], _, _, _, _, _, _, hi, h1, h2 => hi _ _ _ h1 h2
  | (n, k) :: r, h, acc, x, y, c, hl, hi, h1, h2 => by
    unfold cellsFrom at h1 h2
    split at h1
    · rename_i hk
      rw [if_pos hk] at h2
      rw [← Heap.size_push h { cls := .type "cell", data := .cell none }] at h1 h2
      refine cells_inj (h := h.push _) (fun p hp => ?_) (fun x y c a b => ?_) h1 h2
      · rw [Heap.size_push]
        rcases List.mem_cons.mp hp with rfl | hp
        · exact Nat.lt_succ_self _
        · exact Nat.lt_succ_of_lt (hl p hp)
      · rcases List.mem_cons.mp a with e | a <;> rcases List.mem_cons.mp b with e' | b
        · cases e; cases e'; rfl
        · cases e; exact absurd (hl _ b) (Nat.lt_irrefl _)
        · cases e'; exact absurd (hl _ a) (Nat.lt_irrefl _)
        · exact hi _ _ _ a b
    · rename_i hk
      rw [if_neg hk] at h2
      exact cells_inj hl hi h1 h2

theorem newEnv_comp {M : Model} {A : Around} {E : Value → Shared → Prop} {s : Shared} {scope : Scope} {globals : Addr} {closure : List (Str × Addr)} {qual : Str} {func : Option Addr} {code : Value} {around : Env} {builtins : Addr} {Q : Env → Shared → Prop}
    (h : Q (newEnv scope s.heap.objs.size globals (cellsFrom (s.heap.objs.size + 1) scope.names closure) qual func code (some around) builtins)
      { s with heap := pushCells (s.heap.push { cls := .type "dict", data := .dict #[] }) scope.names }) :
    wpAny M A (newFunctionEnv scope globals closure [] qual func code (some around) builtins) Q E s := by
  simp only [newFunctionEnv, Option.isSome_some, if_true]
  refine wpAny_bind (wpAny_alloc ?_)
  refine wpAny_bind (wpAny_layCells _ (fun n k c => rfl) scope.names closure _ _ ?_)
  rw [show ({ s with heap := s.heap.push { cls := .type "dict", data := .dict #[] } } : Shared).heap.objs.size = s.heap.objs.size + 1 from Heap.size_push ..]
  rw [List.forIn_nil]
  exact wpAny_bind (wpAny_pure (wpAny_pure h))

/-- every name of the written scope, in the scope that runs -/
theorem lookup_relS {sc : Scope} : ∀ {names : List (Str × NameKind)} {x : Str} {k : NameKind},
    (names.map fun (n, k) => if (k == NameKind.free && sc.kind == .function && sc.names.lookup n == some .cell) then (n, NameKind.cell) else (n, k)).lookup x = some k →
    ∃ k', names.lookup x = some k' ∧ (k = k' ∨ (k' = .free ∧ k = .cell))
  | [], _, _, h => by simp at h
  | (n, k₀) :: r, x, k, h => by
    have ih := @lookup_relS sc r x k
    have h' : List.lookup x ((if (k₀ == NameKind.free && sc.kind == .function && sc.names.lookup n == some .cell) = true then (n, NameKind.cell) else (n, k₀)) :: (r.map _)) = some k := h
    cases hx : x == n with
    | true =>
      simp only [List.lookup_cons, hx]
      by_cases hc : (k₀ == NameKind.free && sc.kind == .function && sc.names.lookup n == some .cell) = true
      · rw [if_pos hc] at h'
        simp only [List.lookup_cons, hx] at h'
        cases h'
        simp only [Bool.and_eq_true, beq_iff_eq] at hc
        exact ⟨k₀, rfl, .inr ⟨hc.1.1, rfl⟩⟩
      · rw [if_neg hc] at h'
        simp only [List.lookup_cons, hx] at h'
        cases h'
        exact ⟨_, rfl, .inl rfl⟩
    | false =>
      simp only [List.lookup_cons, hx]
      by_cases hc : (k₀ == NameKind.free && sc.kind == .function && sc.names.lookup n == some .cell) = true
      · rw [if_pos hc] at h'
        simp only [List.lookup_cons, hx] at h'
        exact ih h'
      · rw [if_neg hc] at h'
        simp only [List.lookup_cons, hx] at h'
        exact ih h'

/-- the names of a comprehension's block: its own (with their places in N), or captured -/
structure BlkOk (N : List Str) (sc scope : Scope) (own : List (Str × Nat)) : Prop where
  kind : scope.kind = .function
  uniq : ∀ y ∈ scope.names, scope.names.lookup y.1 = some y.2
  ix : ∀ p ∈ own, N[p.2]? = some p.1
  free : ∀ y ∈ scope.names, y.2 = .free → sc.names.lookup y.1 = some .cell ∨ sc.names.lookup y.1 = some .free
  own : ∀ y ∈ scope.names, y.2 = .local ∨ y.2 = .cell → y.1 ∈ own.map (·.1) ∨ y.1 ∉ N
/-- the slots of the block's own names forgotten -/
def wipe (σ : St) : List Nat → St
  | [] => σ
  | v :: vs => (wipe σ vs).set v none
theorem wipe_length (σ : St) : ∀ vs : List Nat, (wipe σ vs).length = σ.length
  | [] => rfl
  | v :: vs => by unfold wipe; rw [List.length_set, wipe_length σ vs]
theorem wipe_some {σ : St} {i : Nat} {x : V} : ∀ {vs : List Nat}, (wipe σ vs)[i]? = some (some x) → σ[i]? = some (some x) ∧ i ∉ vs
  | [], h => ⟨h, by simp⟩
  | v :: vs, h => by
    unfold wipe at h
    by_cases hi : v = i
    · subst hi
      by_cases hv : v < (wipe σ vs).length
      · rw [List.getElem?_set_self hv] at h; cases h
      · rw [List.getElem?_eq_none (by simpa using hv)] at h; cases h
    · rw [List.getElem?_set_ne hi] at h
      obtain ⟨h1, h2⟩ := wipe_some h
      exact ⟨h1, by simp only [List.mem_cons, not_or]; exact ⟨fun e => hi e.symm, h2⟩⟩

/-- the context of a block that starts at s, its iterator's objects at fp -/
abbrev Cx.blk (X : Cx) (s : Shared) (H : Hp) (scope : Scope) (cenv : Env) (fp : List Addr) : Cx := { X with s_0 := s, H_0 := H, env := cenv, outer := X.stack, ex := fp, fn := fun x => scope.names.lookup x == some .cell, pn := [], xe := fun _ _ => False }
section
variable {X : Cx} {pins : List (Addr × Obj)} {σ : St} {H : Hp} {s : Shared}
theorem block_start {scope : Scope} {own : List (Str × Nat)} {fp : List Addr} (I : Inv X pins σ H s) (ok : BlkOk X.N X.env.scope scope own) (hN : X.N.Nodup) (hfp : ∀ b ∈ fp, FpOk X pins H b ∧ b < s.heap.objs.size) :
    Inv (X.blk s H scope (compEnvC scope (cellsFrom (s.heap.objs.size + 1) scope.names (cloFrom X.env.cells scope.names [])) s.heap.objs.size X.env) fp) [] (wipe σ (own.map (·.2))) H { s with heap := pushCells (s.heap.push { cls := .type "dict", data := .dict #[] }) scope.names } := by
  have hfree : ∀ y ∈ scope.names, y.2 = .free → ∃ c, X.env.cells.lookup y.1 = some c := fun y hy e => by
    rcases ok.free y hy e with k | k
    · exact I.ok.has _ (.inl k)
    · exact I.ok.has _ (.inr k)
  generalize hcenv : compEnvC scope (cellsFrom (s.heap.objs.size + 1) scope.names (cloFrom X.env.cells scope.names [])) s.heap.objs.size X.env = cenv
  have kp : ∀ b o, s.heap.get? b = some o → (pushCells (s.heap.push { cls := .type "dict", data := .dict #[] }) scope.names).get? b = some o := fun b o e => pushCells_keeps _ _ _ _ (Heap.get?_push_of_some _ e)
  have hL : cenv.locals = s.heap.objs.size := by rw [← hcenv]; rfl
  have hcl : cenv.cells = cellsFrom (s.heap.objs.size + 1) scope.names (cloFrom X.env.cells scope.names []) := by rw [← hcenv]; rfl
  have hsc : cenv.scope = relS scope X.env.scope := by rw [← hcenv]; rfl
  rw [← Heap.size_push s.heap { cls := .type "dict", data := .dict #[] }] at hcl
  have cm : ∀ {y c}, (y, c) ∈ cloFrom X.env.cells scope.names [] → X.env.cells.lookup y = some c ∧ c < s.heap.objs.size := fun {y c} hm => by
    rcases cloFrom_mem hm with hm | ⟨h1, rfl⟩
    · cases hm
    · obtain ⟨c, hc⟩ := hfree _ h1 rfl
      rw [hc]
      obtain ⟨w, z⟩ := I.cell _ _ hc
      exact ⟨rfl, z.lt⟩
  have mem : ∀ {y c}, cenv.cells.lookup y = some c → (X.env.cells.lookup y = some c ∧ c < s.heap.objs.size) ∨ (s.heap.objs.size + 1 ≤ c ∧ CellAt (pushCells (s.heap.push { cls := .type "dict", data := .dict #[] }) scope.names) c none) := fun {y c} e => by
    rw [hcl] at e
    rcases cells_mem (PySem.mem_of_lookup e) with hm | ⟨_, h2, h3⟩
    · exact .inl (cm hm)
    · rw [Heap.size_push] at h2; exact .inr ⟨h2, h3⟩
  have look : ∀ {y}, scope.names.lookup y = some .free → ∃ c, cenv.cells.lookup y = some c ∧ X.env.cells.lookup y = some c := fun {y} hl => by
    have hy : (y, NameKind.free) ∈ scope.names := PySem.mem_of_lookup hl
    obtain ⟨c', e'⟩ := mem_lookup (cells_acc (names := scope.names) (n := (s.heap.push { cls := .type "dict", data := .dict #[] }).objs.size) (cloFrom_has (cells := X.env.cells) (acc := []) hy))
    rw [← hcl] at e'
    refine ⟨c', e', ?_⟩
    rw [hcl] at e'
    rcases cells_mem (PySem.mem_of_lookup e') with hm | ⟨h1, _, _⟩
    · exact (cm hm).1
    · have := ok.uniq _ h1
      rw [hl] at this; cases this
  have okB : (X.blk s H scope cenv fp).Ok := by
    refine ⟨I.ok.mod, by show cenv.scope.kind = _; rw [hsc]; exact ok.kind, by show cenv.globals = _; rw [← hcenv]; exact I.ok.glob, by show cenv.builtins = _; rw [← hcenv]; exact I.ok.blt, by show s.heap.objs.size ≤ cenv.locals; rw [hL]; exact Nat.le_refl _,
      fun y z c e1 e2 => ?_, fun y hy => ?_, fun y c z e => ?_, I.ok.hd, I.ok.frames, .inl rfl, fun b hb => ⟨?_, fun y c e z => ?_⟩, I.bs, Nat.le_trans I.ok.bsz I.sz, fun b o e hb => ?_, fun b hb z => ?_, I.stack, I.stkFree⟩
    · have e1 : cenv.cells.lookup y = some c := e1
      have e2 : cenv.cells.lookup z = some c := e2
      rw [hcl] at e1 e2
      refine cells_inj (fun p hp => ?_) (fun y z c a b => I.ok.inj y z c (cm a).1 (cm b).1) (PySem.mem_of_lookup e1) (PySem.mem_of_lookup e2)
      rw [Heap.size_push]
      exact Nat.lt_succ_of_lt (cm (y := p.1) (c := p.2) hp).2
    · show ∃ c, cenv.cells.lookup y = some c
      have key : ∀ k, cenv.kindOf y = some k → (k = .cell ∨ k = .free) → ∃ c, cenv.cells.lookup y = some c := fun k hk hk' => by
        unfold Env.kindOf at hk
        rw [hsc] at hk
        obtain ⟨k', e, r⟩ := lookup_relS hk
        have : k' = .cell ∨ k' = .free := by
          rcases r with rfl | ⟨rfl, _⟩
          · exact hk'
          · exact .inr rfl
        rcases this with rfl | rfl
        · obtain ⟨c, hm⟩ := cells_has (n := (s.heap.push { cls := .type "dict", data := .dict #[] }).objs.size) (acc := cloFrom X.env.cells scope.names []) (PySem.mem_of_lookup e)
          obtain ⟨c', e'⟩ := mem_lookup hm
          exact ⟨c', by rw [hcl]; exact e'⟩
        · obtain ⟨c, h1, _⟩ := look e
          exact ⟨c, h1⟩
      rcases hy with hy | hy
      · exact key _ hy (.inl rfl)
      · exact key _ hy (.inr rfl)
    · have z : (scope.names.lookup y == some NameKind.cell) = true := z
      have z : scope.names.lookup y = some .cell := by simpa using z
      have e : cenv.cells.lookup y = some c := e
      rw [hcl] at e
      rcases cells_mem (PySem.mem_of_lookup e) with hm | ⟨_, h2, _⟩
      · rcases cloFrom_mem hm with hm | ⟨h1, _⟩
        · cases hm
        · have q := ok.uniq _ h1
          rw [z] at q; cases q
      · rw [Heap.size_push] at h2
        exact Nat.le_of_succ_le h2
    · show b ≠ cenv.locals
      rw [hL]; exact Nat.ne_of_lt (hfp b hb).2
    · have e : cenv.cells.lookup y = some c := e
      rcases mem e with ⟨h1, _⟩ | ⟨h1, _⟩
      · exact (hfp b hb).1.2.2.2.2.1 y c h1 z
      · have h2 : s.heap.objs.size + 1 ≤ b := by rw [← z]; exact h1
        exact absurd (Nat.lt_of_lt_of_le (hfp b hb).2 (Nat.le_of_succ_le h2)) (Nat.lt_irrefl _)
    · rcases (hfp b hb).1.2.2.2.1 with z | z
      · exact I.ok.noex b o e z
      · exact absurd (Nat.lt_of_lt_of_le (Heap.lt_size e) (Nat.le_trans I.ok.bsz z)) (Nat.lt_irrefl _)
    · rcases List.mem_cons.mp (I.stkSub b z) with z | z
      · exact (hfp b hb).1.2.1 z
      · exact (hfp b hb).1.2.2.1 z
  refine ⟨okB, rfl, I.bare, Un.kept kp, ⟨fun _ => none, ?_, fun i y av e1 e2 e3 => ?_⟩, fun y c e => ?_, ?_, fun y c e => ?_, fun p hp => ?_, I.hok.kept kp, by rw [wipe_length]; exact I.len⟩
  · show Heap.Ns _ cenv.locals _
    rw [hL]
    exact Heap.Ns.keeps (Heap.Ns.new ..) fun b o e => pushCells_keeps _ _ _ _ e
  · obtain ⟨e2, hne⟩ := wipe_some e2
    have hfr : scope.names.lookup y = some .free ∧ (cenv.kindOf y = some .cell ∨ cenv.kindOf y = some .free) := by
      have key : ∀ k, cenv.scope.names.lookup y = some k → k = .local ∨ k = .cell ∨ k = .free → scope.names.lookup y = some .free ∧ (cenv.kindOf y = some .cell ∨ cenv.kindOf y = some .free) := fun k hk hk' => by
        have hk0 := hk
        rw [hsc] at hk
        obtain ⟨k', e, r⟩ := lookup_relS hk
        have no : ¬ (k' = .local ∨ k' = .cell) := fun hh => by
          rcases ok.own _ (PySem.mem_of_lookup e) hh with e' | e'
          · obtain ⟨p, hp, hpy⟩ := List.mem_map.mp e'
            have e3 := ok.ix p hp
            have : p.1 = y := hpy
            rw [this] at e3
            exact hne (List.mem_map.mpr ⟨p, hp, nodup_ix hN e3 e1⟩)
          · exact e' (List.mem_of_getElem? e1)
        rcases r with rfl | ⟨rfl, rfl⟩
        · rcases hk' with rfl | rfl | rfl
          · exact absurd (.inl rfl) no
          · exact absurd (.inr rfl) no
          · exact ⟨e, .inr hk0⟩
        · exact ⟨e, .inl hk0⟩
      have e3 : Vis cenv.scope y := e3
      rcases e3 with e3 | e3 | e3
      · exact key _ e3 (.inl rfl)
      · exact key _ e3 (.inr (.inl rfl))
      · exact key _ e3 (.inr (.inr rfl))
    obtain ⟨m, hn, hl⟩ := I.loc
    have hvis : Vis X.env.scope y := (ok.free _ (PySem.mem_of_lookup hfr.1) rfl).elim (fun k => .inr (.inl k)) (fun k => .inr (.inr k))
    obtain ⟨w, r, q⟩ := hl i y av e1 e2 hvis
    refine ⟨w, r, .inr ⟨hfr.2, ?_⟩⟩
    obtain ⟨c, h1, h2⟩ := look hfr.1
    rcases q with ⟨k, _⟩ | ⟨_, c', e', z⟩
    · have k : X.env.scope.names.lookup y = some .local := k
      rcases ok.free _ (PySem.mem_of_lookup hfr.1) rfl with k' | k' <;> rw [show X.env.scope.names.lookup y = _ from k'] at k <;> cases k
    · rw [h2] at e'; cases e'
      exact ⟨c, h1, z.keeps kp⟩
  · have e : cenv.cells.lookup y = some c := e
    rcases mem e with ⟨h1, _⟩ | ⟨_, z⟩
    · obtain ⟨w, z⟩ := I.cell y c h1
      exact ⟨w, z.keeps kp⟩
    · exact ⟨_, z⟩
  · show H cenv.locals = none
    rw [hL]; exact I.hok.fresh (Nat.le_refl _)
  · have e : cenv.cells.lookup y = some c := e
    rcases mem e with ⟨h1, _⟩ | ⟨h1, _⟩
    · exact I.freeC y c h1
    · exact I.hok.fresh (Nat.le_of_succ_le h1)
  · exact absurd (show p ∈ ([] : List (Addr × Obj)) ++ [] from hp) (by simp)

/-- an item appended to a tracked list -/
theorem app_ok {E : Value → Shared → Prop} {D : Addr} {xs : List V} {y : V} {v : Value} {Q : Value → Shared → Prop} (I : Inv X pins σ H s) (hD : H D = some (.lst xs)) (hz : xs.length < sizeLine) (r : RelV y v)
    (h : ∀ s', Inv X pins σ (upd H D (.lst (xs ++ [y]))) s' → Q .none s') : wpAny (model X.prog X.w) X.A (call (.builtin "list.append") [.ref D, v]) Q E s := by
  obtain ⟨hz', its, n, ri, e⟩ := I.hok D _ hD
  have hl := ri.length
  refine append_at (hsz := by rw [List.size_toArray]; omega) e fun h' sb ho' => ?_
  refine h { s with heap := h' } (I.write (t' := s.toks) (by rw [hD]; trivial) (.inl rfl) (fun b u hb q => (sb.2 b hb).trans q) ⟨_, ho'⟩ ⟨by rw [List.length_append]; exact hz, its ++ [v], n + 1, ri.append (.cons r .nil), ?_⟩)
  rw [ho']
  simp

/-- a clause's tests -/
def PTs (X : Cx) (ifs : List Expr) (t : TT) : Prop :=
  ∀ (pins : List (Addr × Obj)) (s : Shared) (σ : St) (H : Hp) (Q : Bool → Hp → Prop), Inv X pins σ H s → t σ H Q →
    wpAny (model X.prog X.w) X.A (forIn ifs true fun c r => if r = true then do let ok ← isTrue c X.env (eval c X.env); pure (ForInStep.yield ok) else pure (ForInStep.yield r)) (TP X pins σ Q) X.xe s
def tYes : TT := fun _ H Q => Q true H
theorem pts_nil : PTs X [] tYes := fun _ _ _ H _ I h => wpAny_tests_nil ⟨H, I, h⟩
theorem pts_one {c : Expr} {t : TT} (h : PT X c t) : PTs X [c] t := fun pins s σ H Q I hw => wpAny_tests_one (h pins s σ H Q I hw)
end

theorem thnF {α : Type} {t : Sem α} {Q Q' : α → Shared → Prop} {M : Model} {A : Around} {E : Value → Shared → Prop} {s : Shared} (h : wpAny M A t Q (fun _ _ => False) s) (hQ : ∀ a s, Q a s → Q' a s) : wpAny M A t Q' E s := wpAny_mono h hQ fun _ _ z => False.elim z

/-- the loop of a list comprehension's block, the target of any form (codeAny_compLoop_tests asks a target that no tuple goes to; statement and proof follow it, PyProof/CompMap.lean:41-61, with the step letOwnedTupleGo kept) -/
theorem compLoop_any {prog : Program} {w : World} {A : Around} {R : Result → Shared → Prop} {s : Shared} {elt target iter : Expr} {ifs : List Expr} {scope : Scope} {pos : Pos} {it acc : Value} {env : Env} (I : Nat → Shared → Prop)
    (turn : ∀ n s, I n s → wpAny (model prog w) A (pyNext it) (fun r s₁ => match r with
      | none => R (.ok .next) s₁
      | some v => wpAny (model prog w) A (letOwnedTupleGo target it v) (fun _ s₁' => wpAny (model prog w) A (assign target env v) (fun _ s₂ =>
          wpAny (model prog w) A (forIn ifs true fun c r => if r = true then do let ok ← isTrue c env (eval c env); pure (ForInStep.yield ok) else pure (ForInStep.yield r)) (fun ok s₃ =>
            if ok = true then wpAny (model prog w) A (eval elt env) (fun x s₄ =>
              wpAny (model prog w) A (call (.builtin "list.append") [acc, x]) (fun _ s₅ => ∃ m, m < n ∧ I m s₅) (notedBy (model prog w) A env fun e s' => R (.error e) s') s₄) (notedBy (model prog w) A env fun e s' => R (.error e) s') s₃
            else ∃ m, m < n ∧ I m s₃) (notedBy (model prog w) A env fun e s' => R (.error e) s') s₂) (notedBy (model prog w) A env fun e s' => R (.error e) s') s₁') (notedBy (model prog w) A env fun e s' => R (.error e) s') s₁) (notedBy (model prog w) A env fun e s' => R (.error e) s') s)
    (n : Nat) (h : I n s) :
    codeAny (model prog w) A (.compLoop (.ListComp elt [⟨target, iter, ifs, 0⟩] scope pos) 0 it acc env) R s := by
  refine codeAny_loop rfl I (fun n s hI => ?_) n h
  show wpAny _ A ((compTurn (.ListComp elt [⟨target, iter, ifs, 0⟩] scope pos) 0 it acc env).onRaise (fun x => do noteFrame x env; theTreesLotGoes x)) _ _ s
  refine wpAny_noted ?_
  rw [compTurn_list]
  refine wpAny_bind (wpAny_standAt (wpAny_bind (wpAny_mono (turn n s hI) (fun r s₁ h₁ => ?_) fun _ _ h' => h')))
  cases r with
  | none => exact wpAny_pure h₁
  | some v =>
    refine wpAny_bind (wpAny_mono h₁ (fun _ s₁' h₁' => ?_) fun _ _ h' => h')
    refine wpAny_bind (wpAny_mono h₁' (fun _ s₂ h₂ => wpAny_bind (wpAny_mono h₂ (fun ok s₃ h₃ => ?_) fun _ _ h' => h')) fun _ _ h' => h')
    cases ok with
    | false => exact wpAny_pure ⟨rfl, h₃⟩
    | true =>
      exact wpAny_bind (wpAny_bind (wpAny_mono h₃ (fun x s₄ h₄ => wpAny_bind (wpAny_mono h₄ (fun _ s₅ h₅ => wpAny_pure (wpAny_pure ⟨rfl, h₅⟩)) fun _ _ h' => h')) fun _ _ h' => h'))

section
variable {X : Cx}
/-- [elt for target in iter if ..]: D the new list; W by the turn and a measure, Nx what a turn is to reach -/
inductive AccP (D : Addr) (y : V) (H : Hp) (N : Hp → Prop) : Prop
  | mk (acc : List V) (h : H D = some (.lst acc)) (z : acc.length < sizeLine) (q : N (upd H D (.lst (acc ++ [y])))) : AccP D y H N
def tLc (wi : TI) (g : TG) (tt : TT) (te : TE) (vs : List Nat) : TE := fun σ H Q => wi σ H fun J H1 => ∀ D, H1 D = none → ∃ W : Nat → Nat → Hp → Prop, (∃ m, W 0 m (upd H1 D (.lst []))) ∧ ∀ i m H, W i m H →
  (J.stop i H ∧ Q (.ref D) H) ∨ (J.go i H ∧ ∃ Nx : Hp → Prop, (∀ H', Nx H' → ∃ m', m' < m ∧ W (i + 1) m' H') ∧ ∀ x H', J.yld i H x H' → g x (wipe σ vs) H' fun σ2 H2 => wipe σ2 vs = wipe σ vs ∧ tt σ2 H2 fun b H3 =>
    if b = true then te σ2 H3 fun y H4 => AccP D y H4 Nx else Nx H3)
inductive LcI (X : Cx) (σ : St) (fp : List Addr) (tn : Nat → Heap → Prop) (W : Nat → Nat → Hp → Prop) (n : Nat) (s' : Shared) : Prop
  | mk (i : Nat) (H' : Hp) (I : Inv X [] σ H' s') (t : tn i s'.heap) (f : ∀ b ∈ fp, H' b = none) (w : W i n H') : LcI X σ fp tn W n s'
theorem lc_core {pins : List (Addr × Obj)} {s : Shared} {σ : St} {H : Hp} {Q : VK} {elt tg iter : Expr} {ifs : List Expr} {scope : Scope} {own : List (Str × Nat)} {pos pos' : Pos} {wi : TI} {g : TG} {tt : TT} {te : TE} {use : Option (Value → Sem Unit)} {Qf : Value → Shared → Prop}
    (hc : X.calm = true) (hN : X.N.Nodup) (I : Inv X pins σ H s) (hi : PI X tg iter wi) (ok : BlkOk X.N X.env.scope scope own)
    (hg : ∀ (s : Shared) (H : Hp) (C : Addr) (cl : List (Str × Addr)) (fp : List Addr), PG (X.blk s H scope (compEnvC scope cl C X.env) fp) tg g) (ht : ∀ (s : Shared) (H : Hp) (C : Addr) (cl : List (Str × Addr)) (fp : List Addr), PTs (X.blk s H scope (compEnvC scope cl C X.env) fp) ifs tt)
    (he : ∀ (s : Shared) (H : Hp) (C : Addr) (cl : List (Str × Addr)) (fp : List Addr), PE (X.blk s H scope (compEnvC scope cl C X.env) fp) elt te) (hs : ∀ x, foldedSetIterable iter X.env x = pure x)
    (h : tLc wi g tt te (own.map (·.2)) σ H Q)
    (hRR : ∀ D C s' m H', Inv X pins σ H' s' → Q (.ref D) H' → s'.heap.Ns C m → FpOk X pins H' C → compPost (model X.prog X.w) X.A X.xe use Qf (.ref D) C (.ok .next) s') :
    wpAny (model X.prog X.w) X.A (comprehension (.ListComp elt [⟨tg, iter, ifs, 0⟩] scope pos) scope X.env pos' (newList []) false (eval iter X.env) use) Qf X.xe s := by
  have hfree : ∀ y ∈ scope.names, y.2 = .free → ∃ c, X.env.cells.lookup y.1 = some c := fun y hy e => by
    rcases ok.free y hy e with k | k
    · exact I.ok.has _ (.inl k)
    · exact I.ok.has _ (.inr k)
  refine wpAny_comprehension_free (use := use) rfl hs (closure_ok hfree) ok.kind (fun y hy e => by rw [ok.uniq y hy, e])
    (thn (hi pins s σ H _ I h) fun xv s1 hx => thn hx fun itv s2 h2 => ?_)
  obtain ⟨it, fp, tn, J, H2, e, I2, T, st2, f2, q⟩ := h2
  subst e
  refine wpAny_newObj_type (newEnv_comp ?_) (by show 0 ≤ sizeLine; decide)
  generalize hD : s2.heap.objs.size = D
  have hDn : H2 D = none := I2.hok.fresh (Nat.le_of_eq hD)
  obtain ⟨W, ⟨m0, w0⟩, turn⟩ := q D hDn
  -- the new list
  generalize hs3 : ({ s2 with heap := s2.heap.push { cls := .type "list", data := .seq ([] : List Value).toArray } } : Shared) = s3
  have I3 : Inv X pins σ (upd H2 D (.lst [])) s3 := by
    rw [← hs3]
    refine I2.laid (t' := s2.toks) (fun b o e => Heap.get?_push_of_some _ e) (Nat.le_of_eq hD) ⟨Nat.zero_le _, [], 0, .nil, ?_⟩
    rw [← hD]
    exact Heap.get?_push_size _ rfl
  have h3 : s3.heap = s2.heap.push { cls := .type "list", data := .seq ([] : List Value).toArray } := by rw [← hs3]
  have sz : ∀ b ∈ fp, b < s2.heap.objs.size := fun b hb => by
    obtain ⟨o, e, _⟩ := T.obj _ _ st2 b hb
    exact Heap.lt_size e
  have f3 : ∀ b ∈ fp, FpOk X pins (upd H2 D (.lst [])) b ∧ b < s3.heap.objs.size := fun b hb => by
    have hlt := sz b hb
    refine ⟨⟨?_, (f2 b hb).2⟩, by rw [h3, Heap.size_push]; exact Nat.lt_succ_of_lt hlt⟩
    rw [upd_ne (by rw [← hD]; exact Nat.ne_of_lt hlt)]
    exact (f2 b hb).1
  have st3 : tn 0 s3.heap := T.keep _ _ _ st2 fun b _ o e => by rw [h3]; exact Heap.get?_push_of_some _ e
  have I4 := block_start I3 ok hN f3
  have pg := hg s3 (upd H2 D (.lst [])) s3.heap.objs.size (cellsFrom (s3.heap.objs.size + 1) scope.names (cloFrom X.env.cells scope.names [])) fp
  have pt := ht s3 (upd H2 D (.lst [])) s3.heap.objs.size (cellsFrom (s3.heap.objs.size + 1) scope.names (cloFrom X.env.cells scope.names [])) fp
  have pe := he s3 (upd H2 D (.lst [])) s3.heap.objs.size (cellsFrom (s3.heap.objs.size + 1) scope.names (cloFrom X.env.cells scope.names [])) fp
  show codeAny _ _ (.compStart (.ListComp elt [⟨tg, iter, ifs, 0⟩] scope pos) 0 (.ref it) (.ref D) (compEnvC scope (cellsFrom (s3.heap.objs.size + 1) scope.names (cloFrom X.env.cells scope.names [])) s3.heap.objs.size X.env)) (compPost (model X.prog X.w) X.A X.xe use Qf (.ref D) s3.heap.objs.size) { s3 with heap := pushCells (s3.heap.push { cls := .type "dict", data := .dict #[] }) scope.names }
  have nfp : ∀ b ∈ fp, (upd H2 D (.lst [])) b = none := fun b hb => (f3 b hb).1.1
  generalize hce : compEnvC scope (cellsFrom (s3.heap.objs.size + 1) scope.names (cloFrom X.env.cells scope.names [])) s3.heap.objs.size X.env = ce at I4 pg pt pe ⊢
  have cL : ce.locals = s3.heap.objs.size := by subst hce; rfl
  generalize hH3 : upd H2 D (.lst []) = H3 at I3 I4 pg pt pe w0 nfp f3
  generalize hs4 : ({ s3 with heap := pushCells (s3.heap.push { cls := .type "dict", data := .dict #[] }) scope.names } : Shared) = s4 at I4 ⊢
  have st4 : tn 0 s4.heap := T.keep _ _ _ st3 fun b _ o e => by rw [← hs4]; exact pushCells_keeps _ _ _ _ (Heap.get?_push_of_some _ e)
  have stat : ∀ {σ' : St} {H' : Hp} {s' : Shared}, Inv (X.blk s3 H3 scope ce fp) [] σ' H' s' → (∀ b ∈ fp, H' b = none) → ∀ b ∈ fp, FpOk (X.blk s3 H3 scope ce fp) [] H' b := fun {σ' H' s'} I' hn b hb =>
    ⟨hn b hb, (I'.ok.exf b hb).1, I'.ok.exfs b hb, .inl hb, fun x c e => (I'.ok.exf b hb).2 x c e, fun p hp => absurd (show p ∈ ([] : List (Addr × Obj)) ++ [] from hp) (by simp)⟩
  have loop : codeAny (model X.prog X.w) X.A (.compLoop (.ListComp elt [⟨tg, iter, ifs, 0⟩] scope pos) 0 (.ref it) (.ref D) ce) (compPost (model X.prog X.w) X.A X.xe use Qf (.ref D) s3.heap.objs.size) s4 := by
    refine compLoop_any (fun n s' => LcI (X.blk s3 H3 scope ce fp) (wipe σ (own.map (·.2))) fp tn W n s') ?_ m0 ⟨0, H3, I4, st4, nfp, w0⟩
    rintro n s5 ⟨i, H5, I5, st5, n5, w5⟩
    rcases turn i n H5 w5 with ⟨stop, qq⟩ | ⟨go, Nx, hNx, step⟩
    · have td := T.done (X.blk s3 H3 scope ce fp) rfl rfl rfl hc i [] s5 _ H5 (fun _ _ => False) I5 (stat I5 n5) st5 stop
      refine thnF td fun r s6 ⟨hr, I6⟩ => ?_
      subst hr
      -- back in the def's context
      have I7 : Inv X pins σ H5 s6 := I3.call' (ch := fp) I6.os I6.base I6.hok I6.bare fun b hb => ⟨(f3 b hb).1.2.2.2.1, (f3 b hb).1.2.1, (f3 b hb).1.2.2.2.2.1, (f3 b hb).1.2.2.2.2.2⟩
      have nC : H5 s3.heap.objs.size = none := by
        have z : H5 ce.locals = none := I6.free
        rw [cL] at z
        exact z
      obtain ⟨m, hn, _⟩ := I6.loc
      have hn : s6.heap.Ns ce.locals m := hn
      rw [cL] at hn
      exact hRR D s3.heap.objs.size s6 m H5 I7 qq hn (I3.fpOk (Nat.le_refl _) nC)
    · have ti := T.item (X.blk s3 H3 scope ce fp) rfl rfl rfl hc i [] s5 _ H5 (fun _ _ => False) I5 (stat I5 n5) st5 go
      refine thnF ti fun r s6 ⟨u, hr, h6⟩ => ?_
      subst hr
      refine thnF h6 fun _ s7 ⟨x, H7, I7, r7, y7, st7, n7⟩ => ?_
      have I7' := I7.pinned (stat I7 n7) (T.obj _ _ st7)
      refine thnF (pg _ s7 _ H7 x u _ I7' r7 (step x H7 y7)) fun _ s8 ⟨σ8, H8, I8, hw8, q8⟩ => ?_
      refine thnF (pt _ s8 σ8 H8 _ I8 q8) fun b s9 ⟨H9, I9, q9⟩ => ?_
      -- the turn's end
      have fin : ∀ {s' : Shared} {H' : Hp}, Inv (X.blk s3 H3 scope ce fp) ([] ++ pinsAt fp s7.heap) σ8 H' s' → Nx H' → ∃ m, m < n ∧ LcI (X.blk s3 H3 scope ce fp) (wipe σ (own.map (·.2))) fp tn W m s' := fun {s' H'} I' nx => by
        obtain ⟨m', hm, w'⟩ := hNx H' nx
        have pin' : ∀ b ∈ fp, ∀ o, s7.heap.get? b = some o → s'.heap.get? b = some o ∧ H' b = none := fun b hb o e =>
          let z := I'.pin (b, o) (List.mem_append_right _ (List.mem_append_right _ (mem_pinsAt hb e)))
          ⟨z.1, z.2.1⟩
        have hl : (wipe σ (own.map (·.2))).length = σ8.length := by rw [← hw8, wipe_length]
        refine ⟨m', hm, i + 1, H', (I'.unpinned (pins := [])).weak hl (fun j v e => ?_), T.keep _ _ _ st7 fun b hb o e => (pin' b hb o e).1, fun b hb => ?_, w'⟩
        · rw [← hw8] at e
          exact (wipe_some e).1
        · obtain ⟨o, e, _⟩ := T.obj _ _ st7 b hb
          exact (pin' b hb o e).2
      cases b with
      | false =>
        simp only [Bool.false_eq_true, if_false] at q9 ⊢
        exact fin I9 q9
      | true =>
        simp only [if_true] at q9 ⊢
        refine thnF (pe _ s9 σ8 H9 _ I9 q9) fun z s10 ⟨yv, H10, I10, r10, acc, hD10, hz10, nx⟩ => ?_
        exact app_ok (X := X.blk s3 H3 scope ce fp) I10 hD10 hz10 r10 fun s11 I11 => fin I11 nx
  exact codeAny_compStart_list loop (T.self X.A 0 _ _ _ st4 loop)
/-- as a value -/
theorem pe_lc {elt tg iter : Expr} {ifs : List Expr} {scope : Scope} {own : List (Str × Nat)} {pos : Pos} {wi : TI} {g : TG} {tt : TT} {te : TE} (hc : X.calm = true) (hN : X.N.Nodup) (hi : PI X tg iter wi) (ok : BlkOk X.N X.env.scope scope own)
    (hg : ∀ (s : Shared) (H : Hp) (C : Addr) (cl : List (Str × Addr)) (fp : List Addr), PG (X.blk s H scope (compEnvC scope cl C X.env) fp) tg g) (ht : ∀ (s : Shared) (H : Hp) (C : Addr) (cl : List (Str × Addr)) (fp : List Addr), PTs (X.blk s H scope (compEnvC scope cl C X.env) fp) ifs tt)
    (he : ∀ (s : Shared) (H : Hp) (C : Addr) (cl : List (Str × Addr)) (fp : List Addr), PE (X.blk s H scope (compEnvC scope cl C X.env) fp) elt te) (hs : ∀ x, foldedSetIterable iter X.env x = pure x := by intro _; rfl) :
    PE X (.ListComp elt [⟨tg, iter, ifs, 0⟩] scope pos) (tLc wi g tt te (own.map (·.2))) := by
  intro pins s σ H Q I h
  rw [eval_ListComp]
  refine lc_core hc hN I hi ok hg ht he hs h fun D C s' m H' I' q hn f => ⟨m, hn, fun h'' sb => ?_⟩
  obtain ⟨f0, f1, f2, f3, f4, f5⟩ := f
  exact ⟨.ref D, H', I'.turned (t' := s'.toks) (fun b o hb e => (sb.2 b hb).trans e) f0 f1 f3 f4 f5, rfl, q⟩
/-- name = [..] on one line, the name a local -/
theorem ps_setLc {i : Nat} {y : Str} {py : Pos} {elt tg iter : Expr} {ifs : List Expr} {scope : Scope} {own : List (Str × Nat)} {pos spos : Pos} {wi : TI} {g : TG} {tt : TT} {te : TE} (hc : X.calm = true) (hN : X.N.Nodup) (hy : X.N[i]? = some y) (hyl : X.env.scope.names.lookup y = some .local)
    (hsw : swapsWith (.ListComp elt [⟨tg, iter, ifs, 0⟩] scope pos) (some (.Name y py)) spos.line X.env = pure true) (hi : PI X tg iter wi) (ok : BlkOk X.N X.env.scope scope own)
    (hg : ∀ (s : Shared) (H : Hp) (C : Addr) (cl : List (Str × Addr)) (fp : List Addr), PG (X.blk s H scope (compEnvC scope cl C X.env) fp) tg g) (ht : ∀ (s : Shared) (H : Hp) (C : Addr) (cl : List (Str × Addr)) (fp : List Addr), PTs (X.blk s H scope (compEnvC scope cl C X.env) fp) ifs tt)
    (he : ∀ (s : Shared) (H : Hp) (C : Addr) (cl : List (Str × Addr)) (fp : List Addr), PE (X.blk s H scope (compEnvC scope cl C X.env) fp) elt te) (hs : ∀ x, foldedSetIterable iter X.env x = pure x := by intro _; rfl) :
    PS X (.Assign [.Name y py] (.ListComp elt [⟨tg, iter, ifs, 0⟩] scope pos) spos) (tAsg (tLc wi g tt te (own.map (·.2))) (gName i)) := by
  intro pins s σ H D I h
  rw [exec_Assign_Name_used _ _ _ _ hsw]
  refine wpAny_bind (wpAny_standAt (wpAny_bind ?_))
  show wpAny _ X.A (do let _ ← comprehension (.ListComp elt [⟨tg, iter, ifs, 0⟩] scope pos) scope X.env (firstIterPos [⟨tg, iter, ifs, 0⟩] pos) (newList []) false (eval iter X.env) (some (assign (.Name y py) X.env))) _ _ s
  have h : tLc wi g tt te (own.map (·.2)) σ H (fun x H1 => gName i x σ H1 D.nx) := h
  refine wpAny_bind (thn (lc_core (Qf := fun _ s' => SP X pins D .next s') hc hN I hi ok hg ht he hs h fun L C s' m H' I' q hn f => ?_) fun _ s' hq => wpAny_pure (wpAny_pure hq))
  show wpAny _ _ (assign (.Name y py) X.env (.ref L)) _ _ _
  refine wpAny_assign_Name (store_ok2 (v := V.ref L) I' hN hy (.inl hyl) rfl (fun s2 I2 ⟨a, sb, ha⟩ => ?_) (.inr hyl))
  obtain ⟨f0, f1, f2, f3, f4, f5⟩ := f
  have haC : C ≠ a := by
    rcases ha with z | z
    · rw [z]; exact f1
    · exact fun e => f4 y a z e.symm
  refine ⟨m, hn.sameBut sb haC, fun h3 sb3 => ?_⟩
  exact ⟨_, H', I2.turned (t' := s2.toks) (fun b o hb e => (sb3.2 b hb).trans e) f0 f1 f3 f4 f5, q⟩
theorem sw_true {elt : Expr} {gs : List Comprehension} {scope : Scope} {pos py : Pos} {y : Str} {l : Nat} {env : Env} (hk : env.scope.kind = .function) (hy : env.scope.names.lookup y = some .local) (hl : (py.line == pos.line) = true)
    (ha : (scope.names.any fun (n, k) => n == y && (k == .local || k == .cell)) = false) : swapsWith (.ListComp elt gs scope pos) (some (.Name y py)) l env = pure true := by
  have ky : env.kindOf y = some .local := hy
  have hb : env.blockKind = .function := by unfold Env.blockKind; rw [hk]; rfl
  unfold swapsWith
  have e1 : (Expr.Name y py).pos = py := rfl
  have e2 : (Expr.ListComp elt gs scope pos).pos = pos := rfl
  simp only [hb, ky, ha, e1, e2, hl]
  rfl
end

/-! ### the forms one uses -/
end L2

namespace L2
open PySem PySem.Spec PyProof.Rows

section
variable {prog : Program} {w : World} {A : Around} {R : Result → Shared → Prop} {s : Shared} {elt t0 i0 t1 i1 : Expr} {ifs0 ifs1 : List Expr} {scope : Scope} {pos : Pos} {it acc : Value} {env : Env}
end

section
variable {X : Cx}
end
end L2

namespace L2
open PySem PySem.Spec PyProof.Rows

/-! ### lists of pairs as tables -/
section
variable {κ : Type} [DecidableEq κ]
def valV (kvs : List (κ × V)) (k : κ) : Option V := (kvs.find? fun kv => decide (kv.1 = k)).map (·.2)
/-- in its place, or at the end -/
def putK (kvs : List (κ × V)) (k : κ) (v : V) : List (κ × V) :=
  if (kvs.any fun kv => decide (kv.1 = k)) = true then kvs.map (fun kv => if kv.1 = k then (kv.1, v) else kv) else kvs ++ [(k, v)]

theorem valV_pos {p : κ × V} {r : List (κ × V)} {k : κ} (e : p.1 = k) : valV (p :: r) k = some p.2 := by simp [valV, List.find?_cons, e]
theorem valV_neg {p : κ × V} {r : List (κ × V)} {k : κ} (e : ¬ p.1 = k) : valV (p :: r) k = valV r k := by simp [valV, List.find?_cons, e]
theorem valV_any (k : κ) : ∀ kvs : List (κ × V), (kvs.any fun kv => decide (kv.1 = k)) = (valV kvs k).isSome
  | [] => rfl
  | p :: r => by
    rw [List.any_cons]
    by_cases e : p.1 = k
    · simp only [valV_pos e, decide_eq_true e, Bool.true_or, Option.isSome_some]
    · rw [valV_neg e, decide_eq_false e, Bool.false_or]; exact valV_any k r
theorem valV_map (k j : κ) (y : V) : ∀ kvs : List (κ × V), valV (kvs.map fun kv => if kv.1 = k then (kv.1, y) else kv) j = (valV kvs j).map fun x => if j = k then y else x
  | [] => rfl
  | p :: r => by
    have ih := valV_map k j y r
    rw [List.map_cons]
    by_cases h : p.1 = k
    · rw [if_pos h]
      by_cases e : p.1 = j
      · rw [valV_pos (p := (p.1, y)) e, valV_pos e, Option.map_some, if_pos (e.symm.trans h)]
      · rw [valV_neg (p := (p.1, y)) e, valV_neg e, ih]
    · rw [if_neg h]
      by_cases e : p.1 = j
      · rw [valV_pos (p := p) e, valV_pos e, Option.map_some, if_neg (fun z => h (e.trans z))]
      · rw [valV_neg (p := p) e, valV_neg e, ih]
theorem valV_snoc (k j : κ) (y : V) : ∀ kvs : List (κ × V), valV kvs k = none → valV (kvs ++ [(k, y)]) j = if j = k then some y else valV kvs j
  | [], _ => by
    by_cases e : k = j
    · rw [if_pos e.symm]; exact valV_pos (p := (k, y)) e
    · rw [if_neg (fun z => e z.symm)]; exact valV_neg (p := (k, y)) e
  | p :: r, hn => by
    rw [List.cons_append]
    have hk : ¬ p.1 = k := fun z => by rw [valV_pos z] at hn; cases hn
    rw [valV_neg hk] at hn
    have ih := valV_snoc k j y r hn
    by_cases e : p.1 = j
    · rw [valV_pos e, valV_pos e, if_neg (fun z => hk (e.trans z))]
    · rw [valV_neg e, valV_neg e, ih]
theorem valV_put (kvs : List (κ × V)) (k j : κ) (y : V) : valV (putK kvs k y) j = if j = k then some y else valV kvs j := by
  unfold putK
  by_cases a : (kvs.any fun kv => decide (kv.1 = k)) = true
  · rw [if_pos a, valV_map]
    rw [valV_any] at a
    by_cases e : j = k
    · obtain ⟨x, hx⟩ := Option.isSome_iff_exists.mp a
      rw [if_pos e, e, hx, Option.map_some, if_pos rfl]
    · rw [if_neg e]
      cases valV kvs j with
      | none => rfl
      | some x => rw [Option.map_some, if_neg e]
  · rw [if_neg a]
    refine valV_snoc k j y kvs ?_
    rw [valV_any] at a
    cases q : valV kvs k with
    | none => rfl
    | some x => rw [q] at a; exact (a rfl).elim
theorem length_putK (kvs : List (κ × V)) (k : κ) (v : V) : (putK kvs k v).length ≤ kvs.length + 1 := by
  unfold putK
  split
  · rw [List.length_map]; omega
  · rw [List.length_append, List.length_cons, List.length_nil]; omega

theorem RelO.isSome_eq {o : Option V} {u : Option Value} (r : RelO o u) : o.isSome = u.isSome := by
  cases o with
  | none => cases u with
    | none => rfl
    | some _ => exact (show False from r).elim
  | some _ => cases u with
    | none => exact (show False from r).elim
    | some _ => rfl
theorem RelO.getD {o : Option V} {u : Option Value} {d : V} {d' : Value} (r : RelO o u) (rd : RelV d d') : RelV (o.getD d) (u.getD d') := by
  cases o with
  | none => cases u with
    | none => exact rd
    | some _ => exact (show False from r).elim
  | some _ => cases u with
    | none => exact (show False from r).elim
    | some _ => exact r

/-- raw tables of the same keys -/
theorem KV.val {kvs : List (κ × V)} {vs : List (κ × Value)} (r : KV kvs vs) (k : κ) : RelO (valV kvs k) (valueAt vs k) := by
  unfold KV at r
  induction r with
  | nil => exact True.intro
  | @cons p q ps qs h t ih =>
    obtain ⟨h1, h2⟩ := h
    by_cases e : p.1 = k
    · have e' : q.1 = k := h1.symm.trans e
      have b : valueAt (q :: qs) k = some q.2 := by simp [valueAt, List.find?_cons, e']
      rw [valV_pos e, b]; exact h2
    · have e' : ¬ q.1 = k := fun z => e (h1.trans z)
      have b : valueAt (q :: qs) k = valueAt qs k := by simp [valueAt, List.find?_cons, e']
      rw [valV_neg e, b]; exact ih
theorem KV.any {kvs : List (κ × V)} {vs : List (κ × Value)} (r : KV kvs vs) (k : κ) : (kvs.any fun kv => decide (kv.1 = k)) = vs.any fun kv => decide (kv.1 = k) := by
  unfold KV at r
  induction r with
  | nil => rfl
  | cons h t ih => rw [List.any_cons, List.any_cons, ih, h.1]
theorem KV.repl {kvs : List (κ × V)} {vs : List (κ × Value)} (r : KV kvs vs) (k : κ) {y : V} {u : Value} (ry : RelV y u) :
    KV (kvs.map fun kv => if kv.1 = k then (kv.1, y) else kv) (vs.map fun kv => if kv.1 = k then (kv.1, u) else kv) := by
  unfold KV at r ⊢
  induction r with
  | nil => exact .nil
  | @cons p q ps qs h t ih =>
    rw [List.map_cons, List.map_cons]
    refine .cons ?_ ih
    obtain ⟨h1, h2⟩ := h
    by_cases e : p.1 = k
    · rw [if_pos e, if_pos (h1.symm.trans e)]; exact ⟨h1, ry⟩
    · rw [if_neg e, if_neg (fun z => e (h1.trans z))]; exact ⟨h1, h2⟩
theorem KV.put {kvs : List (κ × V)} {vs : List (κ × Value)} (r : KV kvs vs) (k : κ) {y : V} {u : Value} (ry : RelV y u) : KV (putK kvs k y) (stored vs k u) := by
  unfold putK stored
  rw [r.any k]
  by_cases e : (vs.any fun kv => decide (kv.1 = k)) = true
  · rw [if_pos e, if_pos e]; exact r.repl k ry
  · rw [if_neg e, if_neg e]; exact Paired.snoc r ⟨rfl, ry⟩
theorem KV.length {kvs : List (κ × V)} {vs : List (κ × Value)} (r : KV kvs vs) : kvs.length = vs.length := Paired.length r
end

/-! ### a tracked dict, its keys ints and texts or tuples of these -/
theorem kV_is {P : Program} {w : World} {k : Key} {u : Value} (r : RelV (kV k) u) : (mixKind P w).is k u = true := by
  cases k with
  | inl i => obtain ⟨t, e⟩ := (show ∃ t, u = Value.int i t from r); subst e; exact mixKind_int P w i t
  | inr x => obtain ⟨t, e⟩ := (show ∃ t, u = Value.str x t from r); subst e; exact mixKind_str P w x t
theorem items_are {P : Program} {w : World} : ∀ {ks : List Key} {us : List Value}, Vals (ks.map kV) us → ItemsAre (mixKind P w) ks us
  | [], _, r => by rw [List.map_nil] at r; cases r; exact .nil
  | k :: ks, _, r => by
    rw [List.map_cons] at r
    cases r with
    | cons h t => exact .cons (kV_is h) (items_are t)

/-- raw entries of a dict with tuple keys -/
abbrev KT (H : Hp) : List (List Key × V) → List (List Key × Addr × Value) → Prop := Paired fun p q => p.1 = q.1 ∧ H q.2.1 = some (.tup (p.1.map kV)) ∧ RelV p.2 q.2.2
theorem KT.val {H : Hp} {kvs : List (List Key × V)} {xs : List (List Key × Addr × Value)} (r : KT H kvs xs) (k : List Key) : RelO (valV kvs k) ((atKey xs k).map (·.2)) := by
  induction r with
  | nil => exact True.intro
  | @cons p q ps qs h t ih =>
    obtain ⟨h1, _, h2⟩ := h
    by_cases e : p.1 = k
    · have e' : q.1 = k := h1.symm.trans e
      have b : atKey (q :: qs) k = some q.2 := by simp [atKey, List.find?_cons, e']
      rw [valV_pos e, b]; exact h2
    · have e' : ¬ q.1 = k := fun z => e (h1.trans z)
      have b : atKey (q :: qs) k = atKey qs k := by simp [atKey, List.find?_cons, e']
      rw [valV_neg e, b]; exact ih
theorem KT.repl {H : Hp} {kvs : List (List Key × V)} {xs : List (List Key × Addr × Value)} (r : KT H kvs xs) (k : List Key) {y : V} {u : Value} (ry : RelV y u) :
    KT H (kvs.map fun kv => if kv.1 = k then (kv.1, y) else kv) (xs.map (putAt k u)) := by
  induction r with
  | nil => exact .nil
  | @cons p q ps qs h t ih =>
    rw [List.map_cons, List.map_cons]
    refine .cons ?_ ih
    obtain ⟨h1, h2, h3⟩ := h
    unfold putAt
    by_cases e : p.1 = k
    · rw [if_pos e, if_pos (h1.symm.trans e)]; exact ⟨h1, h2, ry⟩
    · rw [if_neg e, if_neg (fun z => e (h1.trans z))]; exact ⟨h1, h2, h3⟩
theorem KT.put {H : Hp} {kvs : List (List Key × V)} {xs : List (List Key × Addr × Value)} (r : KT H kvs xs) (k : List Key) {b : Addr} {y : V} {u : Value} (hb : H b = some (.tup (k.map kV))) (ry : RelV y u) :
    KT H (putK kvs k y) (storedH xs k b u) := by
  have e : (kvs.any fun kv => decide (kv.1 = k)) = (atKey xs k).isSome := by
    rw [valV_any, (r.val k).isSome_eq, Option.isSome_map]
  unfold putK storedH
  rw [e]
  by_cases q : (atKey xs k).isSome = true
  · rw [if_pos q, if_pos q]; exact r.repl k ry
  · rw [if_neg q, if_neg q]; exact Paired.snoc r ⟨rfl, hb, ry⟩
theorem KT.keeps {H H' : Hp} {kvs : List (List Key × V)} {xs : List (List Key × Addr × Value)} (r : KT H kvs xs) (ht : ∀ b ys, H b = some (.tup ys) → H' b = some (.tup ys)) : KT H' kvs xs :=
  Paired.mapP r fun _ _ z => ⟨z.1, ht _ _ z.2.1, z.2.2⟩

section
variable {P : Program} {w : World} {H : Hp} {h : Heap} {a : Addr}
theorem rd_of {u : HO} (ok : HOk P w H h) (e : Rd H a u) : ObjOk P w H h a u := e.ok ok
theorem dk_rd {kvs : List (Key × V)} (ok : HOk P w H h) (e : Rd H a (.dK kvs)) : kvs.length ≤ sizeLine ∧ (a == sysModules) = false ∧ ∃ vs, KV kvs vs ∧ h.DictOf (mixKind P w) a vs :=
  show ObjOk P w H h a (.dK kvs) from rd_of ok e
theorem dk_of {kvs : List (Key × V)} (ok : HOk P w H h) (e : H a = some (.dK kvs)) : kvs.length ≤ sizeLine ∧ (a == sysModules) = false ∧ ∃ vs, KV kvs vs ∧ h.DictOf (mixKind P w) a vs := dk_rd ok (.inl e)
/-- a tracked tuple of ints and texts is a key -/
theorem key_of {ks : List Key} (ok : HOk P w H h) (e : H a = some (.tup (ks.map kV))) : (tupleKind (mixKind P w)).is h ks a := by
  obtain ⟨_, its, r, o, h1, h2, n, h3⟩ := (show ObjOk P w H h a (.tup (ks.map kV)) from ok a _ e)
  exact ⟨o, its.toArray, n, h1, h2, h3, by simpa using items_are r⟩
theorem dt_rd {kvs : List (List Key × V)} (ok : HOk P w H h) (e : Rd H a (.dT kvs)) : kvs.length ≤ sizeLine ∧ (a == sysModules) = false ∧
    ∃ xs, KT H kvs xs ∧ h.DictOfH (tupleKind (mixKind P w)) a xs := by
  obtain ⟨z, y, xs, r, o, es, ep, h1, h2, h3, h4, h5⟩ := (show ObjOk P w H h a (.dT kvs) from rd_of ok e)
  refine ⟨z, y, xs, r, o, es, ep, h1, h2, h3, h4, fun x hx => ?_, h5⟩
  have all : ∀ {l : List (List Key × V)} {m : List (List Key × Addr × Value)}, KT H l m → ∀ x ∈ m, (tupleKind (mixKind P w)).is h x.1 x.2.1 := by
    intro l m q
    induction q with
    | nil => intro x hx; exact nomatch hx
    | @cons p q ps qs hq t ih =>
      intro x hx
      rcases List.mem_cons.mp hx with e | hx
      · subst e
        exact key_of ok (by rw [← hq.1]; exact hq.2.1)
      · exact ih x hx
  exact all r x hx
theorem dt_of {kvs : List (List Key × V)} (ok : HOk P w H h) (e : H a = some (.dT kvs)) : kvs.length ≤ sizeLine ∧ (a == sysModules) = false ∧
    ∃ xs, KT H kvs xs ∧ h.DictOfH (tupleKind (mixKind P w)) a xs := dt_rd ok (.inl e)
end

/-- what the dict at a holds at the key y -/
def DGet (H : Hp) (a : Addr) (y : V) (r : Option V) : Prop :=
  (∃ kvs k, Rd H a (.dK kvs) ∧ y = kV k ∧ r = valV kvs k) ∨ ∃ kvs k b, Rd H a (.dT kvs) ∧ y = .ref b ∧ H b = some (.tup (k.map kV)) ∧ r = valV kvs k
/-- the heap behind a[y] = v -/
def DPut (H : Hp) (a : Addr) (y v : V) (H' : Hp) : Prop :=
  (∃ kvs k, H a = some (.dK kvs) ∧ y = kV k ∧ kvs.length < sizeLine ∧ H' = upd H a (.dK (putK kvs k v))) ∨
  ∃ kvs k b, H a = some (.dT kvs) ∧ y = .ref b ∧ H b = some (.tup (k.map kV)) ∧ kvs.length < sizeLine ∧ H' = upd H a (.dT (putK kvs k v))
theorem DGet.k {H : Hp} {a : Addr} {kvs : List (Key × V)} {k : Key} (e : H a = some (.dK kvs)) : DGet H a (kV k) (valV kvs k) := .inl ⟨kvs, k, .inl e, rfl, rfl⟩
theorem DGet.t {H : Hp} {a b : Addr} {kvs : List (List Key × V)} {k : List Key} (e : H a = some (.dT kvs)) (eb : H b = some (.tup (k.map kV))) : DGet H a (.ref b) (valV kvs k) := .inr ⟨kvs, k, b, .inl e, rfl, eb, rfl⟩
theorem DPut.k {H : Hp} {a : Addr} {kvs : List (Key × V)} {k : Key} {v : V} (e : H a = some (.dK kvs)) (hl : kvs.length < sizeLine) : DPut H a (kV k) v (upd H a (.dK (putK kvs k v))) := .inl ⟨kvs, k, e, rfl, hl, rfl⟩
theorem DPut.t {H : Hp} {a b : Addr} {kvs : List (List Key × V)} {k : List Key} {v : V} (e : H a = some (.dT kvs)) (eb : H b = some (.tup (k.map kV))) (hl : kvs.length < sizeLine) :
    DPut H a (.ref b) v (upd H a (.dT (putK kvs k v))) := .inr ⟨kvs, k, b, e, rfl, eb, hl, rfl⟩

section
variable {X : Cx} {pins : List (Addr × Obj)} {σ : St} {H : Hp} {s : Shared} {a : Addr} {y v : V} {u r : Value} {o : Option V} {A : Around} {E : Value → Shared → Prop}

theorem Inv.big (I : Inv X pins σ H s) : sysModules < s.heap.objs.size := by
  have h : mainGlobals < s.heap.objs.size := (I.mod.glob.keeps I.bk).lt
  exact Nat.lt_trans (by decide) h

/-- d[y], there -/
theorem d_getItem {Q : Value → Shared → Prop} (hu : A.units + 1 < cLine) (I : Inv X pins σ H s) (g : DGet H a y (some v)) (ry : RelV y u) (h : ∀ w' s', Inv X pins σ H s' → RelV v w' → Q w' s') :
    wpAny (model X.prog X.w) A (getItem (.ref a) u) Q E s := by
  rcases g with ⟨kvs, k, e, ey, l⟩ | ⟨kvs, k, b, e, ey, eb, l⟩
  · subst ey
    obtain ⟨z, hd, vs, rel, dd⟩ := dk_rd I.hok e
    obtain ⟨w', hw, rw'⟩ := RelO.some_of (v := v) (o := valueAt vs k) (by rw [l]; exact rel.val k)
    exact wpAny_getItem_of (kV_is ry) dd.mapOf hw (h w' _ (I.tok _) rw')
  · subst ey
    cases (show u = Value.ref b from ry)
    obtain ⟨z, hd, xs, rel, dd⟩ := dt_rd I.hok e
    obtain ⟨w', hw, rw'⟩ := RelO.some_of (v := v) (o := (atKey xs k).map (·.2)) (by rw [l]; exact rel.val k)
    obtain ⟨p, hp, hp2⟩ := Option.map_eq_some_iff.mp hw
    refine wpAny_getItem_heap (tupleKind_room_in1 hu) (key_of I.hok eb) dd hp ?_
    rw [hp2]
    exact h w' _ (I.tok _) rw'
/-- y in d -/
theorem d_in {Q : Value → Shared → Prop} (hu : A.units + 1 < cLine) (I : Inv X pins σ H s) (g : DGet H a y o) (ry : RelV y u) (h : ∀ s', Inv X pins σ H s' → Q (.bool o.isSome) s') :
    wpAny (model X.prog X.w) A (compareOp .In u (.ref a)) Q E s := by
  rcases g with ⟨kvs, k, e, ey, l⟩ | ⟨kvs, k, b, e, ey, eb, l⟩
  · subst ey
    obtain ⟨z, hd, vs, rel, dd⟩ := dk_rd I.hok e
    refine wpAny_in_of (kV_is ry) hd dd.mapOf ?_
    rw [← (rel.val k).isSome_eq, ← l]
    exact h _ (I.tok _)
  · subst ey
    cases (show u = Value.ref b from ry)
    obtain ⟨z, hd, xs, rel, dd⟩ := dt_rd I.hok e
    refine wpAny_in_heap (tupleKind_room_in1 hu) (key_of I.hok eb) hd dd ?_
    have q := (rel.val k).isSome_eq
    rw [Option.isSome_map] at q
    rw [← q, ← l]
    exact h _ (I.tok _)
theorem d_notIn {Q : Value → Shared → Prop} (hu : A.units + 1 < cLine) (I : Inv X pins σ H s) (g : DGet H a y o) (ry : RelV y u) (h : ∀ s', Inv X pins σ H s' → Q (.bool (!o.isSome)) s') :
    wpAny (model X.prog X.w) A (compareOp .NotIn u (.ref a)) Q E s := by
  rcases g with ⟨kvs, k, e, ey, l⟩ | ⟨kvs, k, b, e, ey, eb, l⟩
  · subst ey
    obtain ⟨z, hd, vs, rel, dd⟩ := dk_rd I.hok e
    refine wpAny_notIn_of (kV_is ry) hd dd.mapOf ?_
    rw [← (rel.val k).isSome_eq, ← l]
    exact h _ (I.tok _)
  · subst ey
    cases (show u = Value.ref b from ry)
    obtain ⟨z, hd, xs, rel, dd⟩ := dt_rd I.hok e
    refine wpAny_notIn_heap (tupleKind_room_in1 hu) (key_of I.hok eb) hd dd ?_
    have q := (rel.val k).isSome_eq
    rw [Option.isSome_map] at q
    rw [← q, ← l]
    exact h _ (I.tok _)
/-- a dict's object is replaced -/
theorem d_write {h' : Heap} {t' : Nat} {ob : HO} (I : Inv X pins σ H s) (mu : Mut (H a)) (hs : Heap.SameBut a s.heap h') (he : ∃ q, h'.get? a = some q) (new : ObjOk X.prog X.w (upd H a ob) h' a ob) :
    Inv X pins σ (upd H a ob) { s with heap := h', toks := t' } :=
  I.write (x := a) (e := a) mu (.inl rfl) (fun b q hb z => (hs.2 b hb).trans z) he new
theorem dk_new {P : Program} {w : World} {H' : Hp} {h' : Heap} {kvs : List (Key × V)} {vs : List (Key × Value)} (z : kvs.length ≤ sizeLine) (hd : (a == sysModules) = false) (rel : KV kvs vs) (dd : h'.DictOf (mixKind P w) a vs) :
    ObjOk P w H' h' a (.dK kvs) := ⟨z, hd, vs, rel, dd⟩
/-- d[y] = v -/
theorem d_setItem {H' : Hp} {Q : Unit → Shared → Prop} (hu : A.units + 1 < cLine) (I : Inv X pins σ H s) (g : DPut H a y v H') (ry : RelV y u) (rv : RelV v r) (h : ∀ s', Inv X pins σ H' s' → Q () s') :
    wpAny (model X.prog X.w) A (setItem (.ref a) u r) Q E s := by
  rcases g with ⟨kvs, k, e, ey, l, eH⟩ | ⟨kvs, k, b, e, ey, eb, l, eH⟩
  · subst ey eH
    obtain ⟨z, hd, vs, rel, dd⟩ := dk_of I.hok e
    have hz : vs.length ≤ sizeLine := by rw [← rel.length]; exact z
    have hl : (putK kvs k v).length ≤ sizeLine := by have := length_putK kvs k v; omega
    refine wpAny_setItem_pairs (hsz := hz) (kV_is ry) dd fun h' dd' hs => h _ ?_
    have he : ∃ q, h'.get? a = some q := let ⟨q, _, _, hq, _⟩ := dd'; ⟨q, hq⟩
    exact d_write I (by rw [e]; exact True.intro) hs he (dk_new hl hd (rel.put k rv) dd')
  · subst ey eH
    cases (show u = Value.ref b from ry)
    obtain ⟨z, hd, xs, rel, dd⟩ := dt_of I.hok e
    have hz : xs.length ≤ sizeLine := by rw [← Paired.length rel]; exact z
    have hl : (putK kvs k v).length ≤ sizeLine := by have := length_putK kvs k v; omega
    refine wpAny_setItem_heap (hsz := hz) (tupleKind_room_in1 hu) (key_of I.hok eb) dd fun h' dd' hs => h _ ?_
    obtain ⟨q, es, ep, hq, h2, h3, h4, _, h5⟩ := dd'
    refine d_write I (by rw [e]; exact True.intro) hs ⟨q, hq⟩ ⟨hl, hd, _, (rel.put k eb rv).keeps fun c ys ec => ?_, q, es, ep, hq, h2, h3, h4, h5⟩
    rw [upd_ne (ne_of ec e (fun z => nomatch z))]
    exact ec
end

section
variable {X : Cx} {pins : List (Addr × Obj)} {σ : St} {H : Hp} {s : Shared} {a : Addr} {kvs : List (Key × V)} {k : Key} {u : Value} {A : Around} {E : Value → Shared → Prop}
end

/-! ### readings and rules -/
/-- the element of a subscription, not a slice -/
def NoSl (i : Expr) : Prop := ∀ ov iv, subscripted i false ov iv = operate [ov, iv] (getItem ov iv)
theorem subD_of {prog : Program} {w : World} {A : Around} {E : Value → Shared → Prop} {s : Shared} {env : Env} {value slice : Expr} {pos : Pos} {T id : String} {Q : Value → Shared → Prop}
    (hl : typeLookup (.type T) "__getitem__" = pure (some (.builtin id))) (hs : NoSl slice)
    (h : wpAny (model prog w) A (eval value env) (fun o s₁ => wpAny (model prog w) A (eval slice env) (fun i s₂ => s₂.TypeIs o T ∧ wpAny (model prog w) A (getItem o i) Q E s₂) E s₁) E s) :
    wpAny (model prog w) A (eval (.Subscript value slice pos) env) Q E s := by
  refine Subscript_ (wpAny_mono h (fun o s₁ h₁ => wpAny_mono h₁ (fun i s₂ h₂ => ?_) fun _ _ x => x) fun _ _ x => x)
  obtain ⟨hT, h₂⟩ := h₂
  unfold subscriptTail
  refine wpAny_bind ?_
  rw [getitemInPython_of_ne hT.not_modules]
  refine wpAny_bind (wpAny_specialOf hT hl ?_)
  have fin : wpAny (model prog w) A (subscripted slice false o i) (fun r s₃ => wpAny (model prog w) A (letTemporaryGo value o r >>= fun _ => pure r) Q E s₃) E s₂ := by
    rw [hs o i]
    exact wpAny_operating (wpAny_mono h₂ (fun r s₃ h₃ => wpAny_bind (wpAny_letTemporaryGo (wpAny_pure h₃))) fun _ _ x => x)
  first
    | exact wpAny_pure (wpAny_bind fin)
    | exact wpAny_bind (wpAny_pure (wpAny_bind fin))
    | exact wpAny_bind fin

theorem dict_typeIs {X : Cx} {pins : List (Addr × Obj)} {σ : St} {H : Hp} {s : Shared} {a : Addr} {y : V} {o : Option V} (I : Inv X pins σ H s) (g : DGet H a y o) : s.TypeIs (.ref a) "dict" := by
  rcases g with ⟨kvs, k, e, _, _⟩ | ⟨kvs, k, b, e, _, _, _⟩
  · obtain ⟨_, _, vs, _, dd⟩ := dk_rd I.hok e
    exact dd.typeIs
  · obtain ⟨_, _, xs, _, dd⟩ := dt_rd I.hok e
    exact dd.typeIs

/-- d[y] -/
inductive DGtP (x y : V) (H : Hp) (Q : VK) : Prop
  | mk (a : Addr) (v : V) (e : x = .ref a) (g : DGet H a y (some v)) (q : Q v H) : DGtP x y H Q
def tDGet (td ty : TE) : TE := fun σ H Q => td σ H fun x H1 => ty σ H1 fun y H2 => DGtP x y H2 Q
/-- y in d, y not in d -/
inductive DInP (x y : V) (H : Hp) (Q : VK) : Prop
  | mk (a : Addr) (o : Option V) (e : x = .ref a) (g : DGet H a y o) (q : Q (.bl o.isSome) H) : DInP x y H Q
inductive DNiP (x y : V) (H : Hp) (Q : VK) : Prop
  | mk (a : Addr) (o : Option V) (e : x = .ref a) (g : DGet H a y o) (q : Q (.bl (!o.isSome)) H) : DNiP x y H Q
def tDIn (ty td : TE) : TE := fun σ H Q => ty σ H fun y H1 => td σ H1 fun x H2 => DInP x y H2 Q
def tDNotIn (ty td : TE) : TE := fun σ H Q => ty σ H fun y H1 => td σ H1 fun x H2 => DNiP x y H2 Q
/-- d[y] = v -/
inductive DPtP (x y v : V) (H : Hp) (N : Hp → Prop) : Prop
  | mk (a : Addr) (H4 : Hp) (e : x = .ref a) (p : DPut H a y v H4) (q : N H4) : DPtP x y v H N
def sDPut (td ty tv : TE) : TS := fun D σ H => tv σ H fun v H1 => td σ H1 fun x H2 => ty σ H2 fun y H3 => DPtP x y v H3 (D.nx σ)

section
variable {X : Cx} {o i e value : Expr} {pos pos' tpos : Pos} {td ty tv : TE}
theorem pe_dget (hu : X.A.units + 1 < cLine) (ho : PE X o td) (hi : PE X i ty) (hs : NoSl i) : PE X (.Subscript o i pos) (tDGet td ty) := by
  intro pins s σ H Q I h
  refine subD_of PySem.F.slot_dict_getitem.lookup hs (thn (ho pins s σ H _ I h) fun u s1 ⟨x, H1, I1, rx, q1⟩ => thn (hi pins s1 σ H1 _ I1 q1) fun iv s2 ⟨y, H2, I2, ry, a, v, ex, g, q2⟩ => ?_)
  subst ex
  obtain rfl : u = Value.ref a := rx
  exact ⟨dict_typeIs I2 g, d_getItem hu I2 g ry fun w' s3 I3 rw' => ⟨v, H2, I3, rw', q2⟩⟩
theorem pc_din (hu : X.A.units + 1 < cLine) (hi : PE X i ty) (ho : PE X o td) : PC X .In i o (tDIn ty td) := by
  intro pins s σ H Q I h
  refine thn (hi pins s σ H _ I h) fun iv s1 ⟨y, H1, I1, ry, q1⟩ => thn (ho pins s1 σ H1 _ I1 q1) fun u s2 ⟨x, H2, I2, rx, a, ov, ex, g, q2⟩ => ?_
  subst ex
  obtain rfl : u = Value.ref a := rx
  exact d_in hu I2 g ry fun s3 I3 => ⟨.bl ov.isSome, H2, I3, rfl, q2⟩
theorem pc_dnotin (hu : X.A.units + 1 < cLine) (hi : PE X i ty) (ho : PE X o td) : PC X .NotIn i o (tDNotIn ty td) := by
  intro pins s σ H Q I h
  refine thn (hi pins s σ H _ I h) fun iv s1 ⟨y, H1, I1, ry, q1⟩ => thn (ho pins s1 σ H1 _ I1 q1) fun u s2 ⟨x, H2, I2, rx, a, ov, ex, g, q2⟩ => ?_
  subst ex
  obtain rfl : u = Value.ref a := rx
  exact d_notIn hu I2 g ry fun s3 I3 => ⟨.bl (!ov.isSome), H2, I3, rfl, q2⟩
theorem ps_dput (hu : X.A.units + 1 < cLine) (ho : PE X o td) (hi : PE X i ty) (hv : PE X value tv) (hs : swapsWith value (some (.Subscript o i pos')) pos.line X.env = pure false) :
    PS X (.Assign [.Subscript o i pos'] value pos) (sDPut td ty tv) := by
  intro pins s σ H D I h
  refine wpAny_Assign_Subscript (thn (hv pins s σ H _ I h) fun r s1 ⟨v, H1, I1, rv, q1⟩ => thn (ho pins s1 σ H1 _ I1 q1) fun u s2 ⟨x, H2, I2, rx, q2⟩ => thn (hi pins s2 σ H2 _ I2 q2) fun iv s3 ⟨y, H3, I3, ry, a, H4, ex, g, q3⟩ => ?_) hs
  subst ex
  obtain rfl : u = Value.ref a := rx
  exact d_setItem hu I3 g ry rv fun s4 I4 => ⟨σ, H4, I4, q3⟩
end

/-! ### displays -/
theorem dk_empty {P : Program} {w : World} {H : Hp} (h : Heap) (hb : sysModules < h.objs.size) : ObjOk P w H (h.push { cls := .type "dict", data := .dict #[] }) h.objs.size (.dK []) :=
  ⟨Nat.zero_le _, beq_eq_false_iff_ne.mpr (Ne.symm (Nat.ne_of_lt hb)), [], .nil, Heap.DictOf.new h⟩
theorem dt_empty {P : Program} {w : World} {H : Hp} (h : Heap) (hb : sysModules < h.objs.size) : ObjOk P w H (h.push { cls := .type "dict", data := .dict #[] }) h.objs.size (.dT []) :=
  ⟨Nat.zero_le _, beq_eq_false_iff_ne.mpr (Ne.symm (Nat.ne_of_lt hb)), [], .nil, _, #[], 0, Heap.get?_push_size _ rfl, ⟨rfl, rfl, rfl⟩, rfl, rfl, List.nodup_nil⟩
/-- {}, to be a dict of the kind that is wanted -/
def tDNewK : TE := fun _ H Q => ∀ p, H p = none → Q (.ref p) (upd H p (.dK []))
def tDNewT : TE := fun _ H Q => ∀ p, H p = none → Q (.ref p) (upd H p (.dT []))
section
variable {X : Cx} {pos : Pos}
theorem pe_dnewK : PE X (.Dict [] [] pos) tDNewK := fun pins s σ H Q I h =>
  wpAny_Dict_empty ⟨.ref s.heap.objs.size, _, I.laid (a := s.heap.objs.size) (o := .dK []) (t' := s.toks) (fun _ _ q => Heap.get?_push_of_some _ q) (Nat.le_refl _) (dk_empty s.heap I.big), rfl, h _ (I.hok.fresh (Nat.le_refl _))⟩
theorem pe_dnewT : PE X (.Dict [] [] pos) tDNewT := fun pins s σ H Q I h =>
  wpAny_Dict_empty ⟨.ref s.heap.objs.size, _, I.laid (a := s.heap.objs.size) (o := .dT []) (t' := s.toks) (fun _ _ q => Heap.get?_push_of_some _ q) (Nat.le_refl _) (dt_empty s.heap I.big), rfl, h _ (I.hok.fresh (Nat.le_refl _))⟩
end

/-! ### methods -/
/-- a method call o.m(e) of a built-in, with one argument: what must be seen of the text -/
structure M1 (X : Cx) (o : Expr) (m : Str) (apos : Pos) (e : Expr) (cpos : Pos) : Prop where
  base : attributeBase o m X.env (eval o X.env) = eval o X.env
  few : ((backTo cpos (starEach [e] X.env)).all (fun x => !x.1) && (backToKw cpos (keywordEach [] X.env)).all (fun x => x.1.isSome)
    && decide (([e] : List Expr).length + ([] : List Keyword).length + (if ([] : List Keyword).isEmpty then 0 else 1) < 30)) = true
  line : (apos.endLine == cpos.line) = true
  trees : backTo cpos (starEach [e] X.env) = [(false, eval e X.env)]

/-- a is a dict, whatever its keys -/
def IsD (H : Hp) (a : Addr) : Prop := (∃ kvs, Rd H a (.dK kvs)) ∨ ∃ kvs, Rd H a (.dT kvs)
theorem isD_at {X : Cx} {pins : List (Addr × Obj)} {σ : St} {H : Hp} {s : Shared} {a : Addr} (I : Inv X pins σ H s) (d : IsD H a) :
    s.TypeIs (.ref a) "dict" ∧ (∀ b, Value.ref a = .ref b → ∃ ob, s.heap.get? b = some ob ∧ ob.dict = none) ∧ (a == sysModules) = false := by
  rcases d with ⟨kvs, e⟩ | ⟨kvs, e⟩
  · obtain ⟨_, hd, vs, _, dd⟩ := dk_rd I.hok e
    refine ⟨dd.typeIs, fun b q => ?_, hd⟩
    cases q
    obtain ⟨ob, _, _, h1, h2, _⟩ := dd
    exact ⟨ob, h1, h2.2.1⟩
  · obtain ⟨_, hd, xs, _, dd⟩ := dt_rd I.hok e
    refine ⟨dd.typeIs, fun b q => ?_, hd⟩
    cases q
    obtain ⟨ob, _, _, h1, h2, _⟩ := dd
    exact ⟨ob, h1, h2.2.1⟩

section
variable {X : Cx} {pins : List (Addr × Obj)} {σ : St} {H : Hp} {s : Shared} {a : Addr} {y d : V} {u r : Value} {o : Option V} {A : Around} {E : Value → Shared → Prop}
/-- d.get(y) -/
theorem d_get1 {Q : Value → Shared → Prop} (hu : A.units + 1 < cLine) (I : Inv X pins σ H s) (g : DGet H a y o) (ry : RelV y u) (h : ∀ w' s', Inv X pins σ H s' → RelV (o.getD .non) w' → Q w' s') :
    wpAny (model X.prog X.w) A (call (.builtin "dict.get") [.ref a, u]) Q E s := by
  rcases g with ⟨kvs, k, e, ey, l⟩ | ⟨kvs, k, b, e, ey, eb, l⟩
  · subst ey
    obtain ⟨z, hd, vs, rel, dd⟩ := dk_rd I.hok e
    refine call_meetsIn PySem.F.slot_dict_get dd.typeIs PySem.F.entry_dict_get (PySem.F.args_dict_get_2 _ _) (meets_dict_get (mixKind X.prog X.w) a (kV_is ry) hd) ⟨_, dd.mapOf, h _ _ (I.tok _) ?_⟩
    rw [l]
    exact (rel.val k).getD rfl
  · subst ey
    cases (show u = Value.ref b from ry)
    obtain ⟨z, hd, xs, rel, dd⟩ := dt_rd I.hok e
    refine call_meetsIn PySem.F.slot_dict_get dd.typeIs PySem.F.entry_dict_get (PySem.F.args_dict_get_2 _ _) (meetsH_dict_get (tupleKind (mixKind X.prog X.w)) a b hd) ⟨tupleKind_room_in1 hu, k, xs, key_of I.hok eb, dd, h _ _ (I.tok _) ?_⟩
    rw [l]
    exact (rel.val k).getD rfl
end

def tDGet1 (td ty : TE) : TE := fun σ H Q => td σ H fun x H1 => ∃ a, x = .ref a ∧ IsD H1 a ∧ ty σ H1 fun y H2 => ∃ o, DGet H2 a y o ∧ Q (o.getD .non) H2
section
variable {X : Cx} {o e f : Expr} {apos cpos : Pos} {td ty tx : TE}
theorem pe_dget1 (hu : X.A.units + 1 < cLine) (ho : PE X o td) (he : PE X e ty) (m : M1 X o "get" apos e cpos) : PE X (.Call (.Attribute o "get" apos) [e] [] cpos) (tDGet1 td ty) := by
  intro pins s σ H Q I h
  refine wpAny_Call_method m.base m.few m.line PySem.F.plainAttrs_dict PySem.F.slot_dict_get PySem.F.type_dict_get (thn (ho pins s σ H _ I h) fun u s1 ⟨x, H1, I1, rx, a, ex, d, q1⟩ => ?_)
  subst ex
  obtain rfl : u = Value.ref a := rx
  obtain ⟨t1, t2, _⟩ := isD_at I1 d
  refine ⟨t1, t2, ?_⟩
  rw [m.trees]
  refine Calls.callWith_builtin rfl (Calls.evalArgs_plain (Calls.spliced_cons (thn (he pins s1 σ H1 _ I1 q1) fun iv s2 ⟨y, H2, I2, ry, ov, g, q2⟩ => Calls.spliced_nil ?_)))
  exact d_get1 hu I2 g ry fun w' s3 I3 rw' => ⟨_, H2, I3, rw', q2⟩
end

/-! ### dict(d): a copy -/
section
variable {X : Cx} {pins : List (Addr × Obj)} {σ : St} {H : Hp} {s : Shared} {a : Addr} {kvs : List (Key × V)} {A : Around} {E : Value → Shared → Prop}
end

section
variable {X : Cx} {pins : List (Addr × Obj)} {σ : St} {H : Hp} {s : Shared} {a : Addr} {y : V} {u : Value} {A : Around} {E : Value → Shared → Prop}
end
end L2

namespace L2
open PySem PySem.Spec PyProof.Rows

section
variable {prog : Program} {w : World} {A : Around} {E : Value → Shared → Prop}

end

section
variable {X : Cx}
end
end L2

namespace L2
open PySem PySem.Spec PyProof.Rows

section
variable {X : Cx} {pins : List (Addr × Obj)} {σ : St} {H : Hp} {s : Shared} {h' : Heap}
/-- several records of ours have turned -/
theorem Inv.turnedL {t' : Nat} {ch : List Addr} (I : Inv X pins σ H s) (k : ∀ b o, b ∉ ch → s.heap.get? b = some o → h'.get? b = some o) (hf : ∀ b ∈ ch, FpOk X pins H b) : Inv X pins σ H { s with heap := h', toks := t' } := by
  have nit : ∀ b u, H b = some u → b ∉ ch := fun b u e z => by
    have q := (hf b z).1
    rw [q] at e; cases e
  refine I.step (g' := s.gens) (d' := s.drawn) (ch := ch) (fun b hb => ⟨(hf b hb).2.2.2.1, (hf b hb).2.1, (hf b hb).2.2.2.2.1, (hf b hb).2.2.2.2.2⟩) (fun b o _ _ hc e _ => k b o hc e) (fun b o _ _ hc e _ => ⟨o.slots, k b o hc e⟩)
    (fun _ _ _ _ n => n) (fun b o hc e => ⟨o, k b o hc e⟩) (fun _ _ e => e) (fun _ _ _ e => e) (fun b ps e => ⟨#[], by rw [e]; simp⟩) (fun m hm => ?_) (fun b u e => ?_) I.bare
  · obtain ⟨o, es, ep, ho, r⟩ := hm
    exact ⟨o, es, ep, k _ o (fun z => (hf _ z).2.1 rfl) ho, r⟩
  · refine (I.hok b u e).stay (fun c v hc q => k c v ?_ q) (fun _ q => q) fun _ _ q => q
    rcases hc with z | z
    · rw [z]; exact nit b u e
    · exact nit c _ z
/-- .. and one new object is laid -/
theorem Inv.turnedNew {t' : Nat} {ch : List Addr} {T : Addr} {ob : HO} (I : Inv X pins σ H s) (k : ∀ b o, b ∉ ch → s.heap.get? b = some o → h'.get? b = some o) (hf : ∀ b ∈ ch, FpOk X pins H b) (hT : s.heap.objs.size ≤ T)
    (new : ObjOk X.prog X.w (upd H T ob) h' T ob) : Inv X pins σ (upd H T ob) { s with heap := h', toks := t' } := by
  have hn : H T = none := I.hok.fresh hT
  have nit : ∀ b u, H b = some u → b ∉ ch := fun b u e z => by
    have q := (hf b z).1
    rw [q] at e; cases e
  refine I.step (g' := s.gens) (d' := s.drawn) (ch := ch) (fun b hb => ⟨(hf b hb).2.2.2.1, (hf b hb).2.1, (hf b hb).2.2.2.2.1, (hf b hb).2.2.2.2.2⟩) (fun b o _ _ hc e _ => k b o hc e) (fun b o _ _ hc e _ => ⟨o.slots, k b o hc e⟩)
    (fun b o _ e n => ?_) (fun b o hc e => ⟨o, k b o hc e⟩) (fun b xs e => ?_) (fun b o u e => ?_) (fun b ps e => ⟨#[], ?_⟩) (fun m hm => ?_) (fun b u e => ?_) I.bare
  · rw [upd_ne (Nat.ne_of_lt (Nat.lt_of_lt_of_le (Heap.lt_size e) hT))]; exact n
  · rw [upd_ne (ne_of_none e hn)]; exact e
  · rw [upd_ne (ne_of_none e hn)]; exact e
  · rw [upd_ne (ne_of_none e hn), e]; simp
  · obtain ⟨o, es, ep, ho, r⟩ := hm
    exact ⟨o, es, ep, k _ o (fun z => (hf _ z).2.1 rfl) ho, r⟩
  · by_cases hb : b = T
    · subst hb
      rw [upd_same] at e
      cases e
      exact new
    · rw [upd_ne hb] at e
      refine (I.hok b u e).stay (fun c v hc q => k c v ?_ q) (fun c q => by rw [upd_ne (ne_of_none q hn)]; exact q) fun c xs q => by rw [upd_ne (ne_of_none q hn)]; exact q
      rcases hc with z | z
      · rw [z]; exact nit b u e
      · exact nit c _ z

/-! ### locking a thing while a statement runs -/
end
section
variable {X : Cx}

/-! ### one iterator just laid -/
end

/-! ### range with a step -/
section
variable {X : Cx} {tg : Expr}
end

/-! ### reversed(list) -/
section
variable {X : Cx} {tg : Expr}
end

/-! ### a str -/

/-! ### a dict's keys: any dict's entries -/
section
variable {prog : Program} {w : World} {A : Around} {E : Value → Shared → Prop} {s : Shared}
end

/-! ### a locked dict -/
section
variable {X : Cx} {pins : List (Addr × Obj)} {σ : St} {H : Hp} {s : Shared} {d : Addr} {o : Obj}
end

section
variable {P : Program} {w : World} {K : PySem.W.Frag} {tg : Expr} {d : Addr} {o : Obj} {es : Array DictEntry} {ep : Nat}
end

/-! ### for k in d, d.keys(), d.values(), d.items() -/
section
variable {X : Cx} {tg e : Expr} {td : TE} {apos cpos : Pos}
end

/-! ### enumerate(list) -/
/-- the list at a as it stands at each turn, each item in a new pair -/
def Ite (K : PySem.W.Frag) (a : Addr) : It :=
  ⟨fun i H => ∃ (xs : List V) (x : V), SqL K H a xs ∧ xs[i]? = some x, fun i H v H' => ∃ T x, v = .ref T ∧ H T = none ∧ H' = upd H T (.tup [.int (i : Nat), x]) ∧ ∀ xs, SqL K H a xs → xs[i]? = some x, fun i H => ∃ xs : List V, SqL K H a xs ∧ xs.length ≤ i⟩
theorem turn_enum {P : Program} {w : World} {K : PySem.W.Frag} {elts : List Expr} {kk : Nat} {tpos : Pos} (a e it : Addr) :
    Turn P w K (.Tuple elts kk tpos) (Ite K a) [e, it] e (fun i h => (∃ old, IsEnum h e it ((i : Nat) : Int) old) ∧ h.IsListIter it a i ∧ e ≠ it) where
  mem := by simp
  obj := fun i h st b hb => by
    obtain ⟨⟨old, he⟩, ⟨o, ho, hc, hd⟩, _⟩ := st
    have e' : b = e ∨ b = it := by simpa using hb
    rcases e' with z | z
    · rw [z]; exact ⟨_, he, fun v q => nomatch q⟩
    · rw [z]; exact ⟨o, ho, fun v q => by rw [hd] at q; cases q⟩
  keep := fun i h h' st k => let ⟨⟨old, he⟩, hi, hne⟩ := st; ⟨⟨old, k e (by simp) _ he⟩, hi.at fun o q => k it (by simp) o q, hne⟩
  item := by
    intro X hP hw hK hc i pins s σ H E I hf st hg
    subst hP hw hK
    obtain ⟨⟨old, he⟩, hit, hne⟩ := st
    obtain ⟨xs, x, hq, hx⟩ := hg
    obtain ⟨its, rv, p, hz⟩ := I.list hq
    obtain ⟨u, hu, ru⟩ := rv.get hx
    have hel : e < s.heap.objs.size := Heap.lt_size he
    have hil : it < s.heap.objs.size := by obtain ⟨_, q, _⟩ := hit; exact Heap.lt_size q
    refine wpAny_pyNext_enum_item he hit p.isList (x := u) (by simpa using hu) hne fun h' ho hit' hT hsz hk => ?_
    refine ⟨_, rfl, wpAny_letOwnedTupleGo_enum (s := { s with heap := h', toks := s.toks + 1 }) ho fun h'' he' sb => ?_⟩
    have hT2 : h''.get? s.heap.objs.size = some { cls := .type "tuple", data := .seq #[.int i s.toks, u] } := (sb.2 _ (Nat.ne_of_gt hel)).trans hT
    have new : ObjOk X.prog X.w (upd H s.heap.objs.size (.tup [.int (i : Nat), x])) h'' s.heap.objs.size (.tup [.int (i : Nat), x]) :=
      ⟨by show 2 ≤ sizeLine; decide, [.int i s.toks, u], .cons ⟨_, rfl⟩ (.cons ru .nil), ⟨_, hT2, rfl, _, rfl⟩⟩
    have I1 : Inv X pins σ (upd H s.heap.objs.size (.tup [.int (i : Nat), x])) { s with heap := h'', toks := s.toks + 1 } :=
      I.turnedNew (ch := [e, it]) (fun b ob hb q => (sb.2 b (fun z => hb (by simp [z]))).trans (hk b ob (fun z => hb (by simp [z])) (fun z => hb (by simp [z])) q)) hf (Nat.le_refl _) new
    refine ⟨.ref s.heap.objs.size, _, I1, rfl, ⟨_, x, rfl, I.hok.fresh (Nat.le_refl _), rfl, fun ys hy => by rw [I.list_inj hy hq]; exact hx⟩, ⟨⟨u, ?_⟩, hit'.at fun o q => (sb.2 it (Ne.symm hne)).trans q, hne⟩, fun b hb => ?_⟩
    · have e1 : ((i + 1 : Nat) : Int) = (i : Int) + 1 := by omega
      rw [e1]; exact he'
    · have hb' : b < s.heap.objs.size := by
        have e' : b = e ∨ b = it := by simpa using hb
        rcases e' with z | z
        · rw [z]; exact hel
        · rw [z]; exact hil
      rw [upd_ne (Nat.ne_of_lt hb')]
      exact (hf b hb).1
  done := by
    intro X hP hw hK hc i pins s σ H E I hf st hg
    subst hP hw hK
    obtain ⟨⟨old, he⟩, hit, hne⟩ := st
    obtain ⟨xs, hq, hx⟩ := hg
    obtain ⟨its, rv, p, hz⟩ := I.list hq
    obtain ⟨f0, f1, f2, f3, f4, f5⟩ := hf it (by simp)
    have hl := rv.length
    exact wpAny_pyNext_enum_end (I.ok.hd hc) he hit p.isList (by simp; omega) fun h' eb => ⟨rfl, I.turned (t' := s.toks) (fun b o hb q => eb b o hb q) f0 f1 f3 f4 f5⟩
  self := fun A i s Q E st h => let ⟨⟨_, he⟩, _⟩ := st; wpAny_pyIter_enum he h
inductive EnmP (K : PySem.W.Frag) (vs : List V) (H : Hp) (R : It → Hp → Prop) : Prop
  | mk (a : Addr) (xs : List V) (e : vs = [.ref a]) (h : SqL K H a xs) (q : R (Ite K a) H) : EnmP K vs H R
def iEnum (K : PySem.W.Frag) (ta : TA) : TI := fun σ H R => ta σ H fun vs H1 => EnmP K vs H1 R
theorem pi_enum {X : Cx} {e : Expr} {ta : TA} {p pos tpos : Pos} {elts : List Expr} {kk : Nat} (hg : Gl X "enumerate") (hm : X.mg "enumerate" = none) (ha : PA X [e] ta) (hs : starEach [e] X.env = [(false, eval e X.env)] := by rfl) :
    PI X (.Tuple elts kk tpos) (.Call (.Name "enumerate" p) [e] [] pos) (iEnum X.K ta) := by
  intro pins s σ H R I h
  refine Call_ (ld_blt I hg hm boot_enumerate (PyProof.Rows.callWith_type1 (thn (ha pos pins s σ H _ I h) fun us s1 ⟨vs, H1, I1, r1, q1⟩ => ?_) hs rfl))
  obtain ⟨a, xs, ex, hq, q⟩ := q1
  subst ex
  cases r1 with
  | cons r rr =>
    cases rr
    cases r
    obtain ⟨its, rv, p', hz⟩ := I1.list hq
    refine call_enumerate_list p'.isList fun h' he hit hsz hk => wpAny_pyIter_enum he ?_
    have I2 : Inv X pins σ H1 { s1 with heap := h' } := I1.kept (t' := s1.toks) hk
    refine ⟨s1.heap.objs.size + 1, [s1.heap.objs.size + 1, s1.heap.objs.size], _, _, H1, rfl, I2, turn_enum a (s1.heap.objs.size + 1) s1.heap.objs.size, ⟨⟨.none, he⟩, hit, Nat.succ_ne_self _⟩, fun b hb => ?_, q⟩
    have e' : b = s1.heap.objs.size + 1 ∨ b = s1.heap.objs.size := by simpa using hb
    have hle : s1.heap.objs.size ≤ b := by
      rcases e' with z | z
      · rw [z]; exact Nat.le_add_right _ _
      · rw [z]; exact Nat.le_refl _
    exact I1.fpOk hle (I1.hok.fresh hle)
/-! ### zip(list, list) -/
theorem boot_zip5 : bootBuiltins "zip" = some (.type "zip") := by decide +kernel
/-- the lists at a and b as they stand at each turn, the items in new pairs -/
def Itz (K : PySem.W.Frag) (a b : Addr) : It :=
  ⟨fun i H => ∃ (xs ys : List V) (x y : V), SqL K H a xs ∧ SqL K H b ys ∧ xs[i]? = some x ∧ ys[i]? = some y,
    fun i H v H' => ∃ T x y, v = .ref T ∧ H T = none ∧ H' = upd H T (.tup [x, y]) ∧ (∀ xs, SqL K H a xs → xs[i]? = some x) ∧ ∀ ys, SqL K H b ys → ys[i]? = some y,
    fun i H => ∃ xs ys : List V, SqL K H a xs ∧ SqL K H b ys ∧ (xs.length ≤ i ∨ ys.length ≤ i)⟩
theorem turn_zip {P : Program} {w : World} {K : PySem.W.Frag} {elts : List Expr} {kk : Nat} {tpos : Pos} {a b z TI TO i1 i2 : Addr} (D : ZipApart z TI TO i1 i2 a b) :
    Turn P w K (.Tuple elts kk tpos) (Itz K a b) [z, TI, TO, i1, i2] z (fun i h => IsZip h z TI TO .none ∧ IsPair h TI (.ref i1) (.ref i2) ∧ (∃ x y, IsPair h TO x y) ∧ h.IsListIter i1 a i ∧ h.IsListIter i2 b i) where
  mem := by simp
  obj := fun i h st c hc => by
    obtain ⟨hz, hTI, ⟨x, y, hTO⟩, ⟨o1, e1, _, d1⟩, ⟨o2, e2, _, d2⟩⟩ := st
    have e' : c = z ∨ c = TI ∨ c = TO ∨ c = i1 ∨ c = i2 := by simpa using hc
    rcases e' with q | q | q | q | q
    · rw [q]; exact ⟨_, hz, fun v q => nomatch q⟩
    · rw [q]; exact ⟨_, hTI, fun v q => nomatch q⟩
    · rw [q]; exact ⟨_, hTO, fun v q => nomatch q⟩
    · rw [q]; exact ⟨o1, e1, fun v q => by rw [d1] at q; cases q⟩
    · rw [q]; exact ⟨o2, e2, fun v q => by rw [d2] at q; cases q⟩
  keep := fun i h h' st k => by
    obtain ⟨hz, hTI, ⟨x, y, hTO⟩, h1, h2⟩ := st
    exact ⟨k z (by simp) _ hz, k TI (by simp) _ hTI, ⟨x, y, k TO (by simp) _ hTO⟩, h1.at fun o q => k i1 (by simp) o q, h2.at fun o q => k i2 (by simp) o q⟩
  item := by
    intro X hP hw hK hc i pins s σ H E I hf st hg
    subst hP hw hK
    obtain ⟨hz, hTI, ⟨x0, y0, hTO⟩, h1, h2⟩ := st
    obtain ⟨xs, ys, x, y, hqx, hqy, hx, hy⟩ := hg
    obtain ⟨its, rv, p, _⟩ := I.list hqx
    obtain ⟨its2, rv2, p2, _⟩ := I.list hqy
    obtain ⟨u, hu, ru⟩ := rv.get hx
    obtain ⟨u2, hu2, ru2⟩ := rv2.get hy
    have hzl : z < s.heap.objs.size := Heap.lt_size hz
    refine wpAny_pyNext_zip_item D hz hTI hTO h1 h2 p.isList p2.isList (x := u) (y := u2) (by simpa using hu) (by simpa using hu2) fun h' z' TO' h1' h2' hT hsz hk => ?_
    refine ⟨_, rfl, wpAny_letOwnedTupleGo_zip (s := { s with heap := h' }) z' fun h'' z'' sb => ?_⟩
    have hT2 : h''.get? s.heap.objs.size = some { cls := .type "tuple", data := .seq #[u, u2] } := (sb.2 _ (Nat.ne_of_gt hzl)).trans hT
    have new : ObjOk X.prog X.w (upd H s.heap.objs.size (.tup [x, y])) h'' s.heap.objs.size (.tup [x, y]) :=
      ⟨by show 2 ≤ sizeLine; decide, [u, u2], .cons ru (.cons ru2 .nil), ⟨_, hT2, rfl, _, rfl⟩⟩
    have I1 : Inv X pins σ (upd H s.heap.objs.size (.tup [x, y])) { s with heap := h'' } :=
      I.turnedNew (t' := s.toks) (ch := [z, TI, TO, i1, i2]) (fun c o hb q => (sb.2 c (fun q' => hb (by simp [q']))).trans (hk c o (fun q' => hb (by simp [q'])) (fun q' => hb (by simp [q'])) (fun q' => hb (by simp [q'])) (fun q' => hb (by simp [q'])) q)) hf (Nat.le_refl _) new
    refine ⟨.ref s.heap.objs.size, _, I1, rfl, ⟨_, x, y, rfl, I.hok.fresh (Nat.le_refl _), rfl, fun l hl => by rw [I.list_inj hl hqx]; exact hx, fun l hl => by rw [I.list_inj hl hqy]; exact hy⟩, ⟨z'', ?_, ⟨u, u2, ?_⟩, ?_, ?_⟩, fun c hcm => ?_⟩
    · exact (sb.2 _ D.TIz).trans (hk _ _ D.TIz D.TITO D.TIi1 D.TIi2 hTI)
    · exact (sb.2 _ D.TOz).trans TO'
    · exact h1'.at fun o q => (sb.2 _ D.i1z).trans q
    · exact h2'.at fun o q => (sb.2 _ D.i2z).trans q
    · have hlt : c < s.heap.objs.size := by
        have e' : c = z ∨ c = TI ∨ c = TO ∨ c = i1 ∨ c = i2 := by simpa using hcm
        rcases e' with q | q | q | q | q
        · rw [q]; exact hzl
        · rw [q]; exact Heap.lt_size hTI
        · rw [q]; exact Heap.lt_size hTO
        · rw [q]; obtain ⟨_, e1, _⟩ := h1; exact Heap.lt_size e1
        · rw [q]; obtain ⟨_, e2, _⟩ := h2; exact Heap.lt_size e2
      rw [upd_ne (Nat.ne_of_lt hlt)]
      exact (hf c hcm).1
  done := by
    intro X hP hw hK hc i pins s σ H E I hf st hg
    subst hP hw hK
    obtain ⟨hz, hTI, ⟨x0, y0, hTO⟩, h1, h2⟩ := st
    obtain ⟨xs, ys, hqx, hqy, hend⟩ := hg
    obtain ⟨its, rv, p, _⟩ := I.list hqx
    obtain ⟨its2, rv2, p2, _⟩ := I.list hqy
    have l1 := rv.length
    have l2 := rv2.length
    have he : its.toArray[i]? = none ∨ its2.toArray[i]? = none := by
      rcases hend with q | q
      · exact .inl (by simp; omega)
      · exact .inr (by simp; omega)
    exact wpAny_pyNext_zip_end (I.ok.hd hc) D hz hTI hTO h1 h2 p.isList p2.isList he fun h' hk => ⟨rfl, I.turnedL (t' := s.toks) (ch := [z, TI, TO, i1, i2]) (fun c o hb q =>
      hk c o (fun q' => hb (by simp [q'])) (fun q' => hb (by simp [q'])) (fun q' => hb (by simp [q'])) (fun q' => hb (by simp [q'])) q) hf⟩
  self := fun A i s Q E st h => wpAny_pyIter_zip st.1 h
inductive ZipP (K : PySem.W.Frag) (vs : List V) (H : Hp) (R : It → Hp → Prop) : Prop
  | mk (a b : Addr) (xs ys : List V) (e : vs = [.ref a, .ref b]) (h : SqL K H a xs) (h2 : SqL K H b ys) (q : R (Itz K a b) H) : ZipP K vs H R
def iZip (K : PySem.W.Frag) (ta : TA) : TI := fun σ H R => ta σ H fun vs H1 => ZipP K vs H1 R
theorem pi_zip {X : Cx} {e e2 : Expr} {ta : TA} {p pos tpos : Pos} {elts : List Expr} {kk : Nat} (hg : Gl X "zip") (hm : X.mg "zip" = none) (ha : PA X [e, e2] ta)
    (hs : starEach [e, e2] X.env = (false, eval e X.env) :: starEach [e2] X.env := by rfl) (hpl : (backTo pos (starEach [e2] X.env)).any (·.1) = false := by rfl) :
    PI X (.Tuple elts kk tpos) (.Call (.Name "zip" p) [e, e2] [] pos) (iZip X.K ta) := by
  intro pins s σ H R I h
  refine Call_ (ld_blt I hg hm boot_zip5 (PyProof.Rows.callWith_type1 (thn (ha pos pins s σ H _ I h) fun us s1 ⟨vs, H1, I1, r1, q1⟩ => ?_) hs hpl))
  obtain ⟨a, b, xs, ys, ex, hqx, hqy, q⟩ := q1
  subst ex
  cases r1 with
  | cons r rr =>
    cases rr with
    | cons r' rr =>
      cases rr
      cases r
      cases r'
      obtain ⟨its, rv, p1, _⟩ := I1.list hqx
      obtain ⟨its2, rv2, p2, _⟩ := I1.list hqy
      have la : a < s1.heap.objs.size := p1.lt
      have lb : b < s1.heap.objs.size := p2.lt
      refine call_zip_2 p1.isList p2.isList fun h' hz hTI hTO h1 h2 hsz hk => wpAny_pyIter_zip hz ?_
      have I2 : Inv X pins σ H1 { s1 with heap := h' } := I1.kept (t' := s1.toks) hk
      refine ⟨s1.heap.objs.size + 4, [s1.heap.objs.size + 4, s1.heap.objs.size + 2, s1.heap.objs.size + 3, s1.heap.objs.size, s1.heap.objs.size + 1], _, _, H1, rfl, I2, turn_zip (PySem.W.ktu_apart s1.heap.objs.size a b la lb), ⟨hz, hTI, ⟨_, _, hTO⟩, h1, h2⟩, fun c hcm => ?_, q⟩
      have e' : c = s1.heap.objs.size + 4 ∨ c = s1.heap.objs.size + 2 ∨ c = s1.heap.objs.size + 3 ∨ c = s1.heap.objs.size ∨ c = s1.heap.objs.size + 1 := by simpa using hcm
      have hle : s1.heap.objs.size ≤ c := by
        rcases e' with z | z | z | z | z
        · rw [z]; exact Nat.le_add_right _ _
        · rw [z]; exact Nat.le_add_right _ _
        · rw [z]; exact Nat.le_add_right _ _
        · rw [z]; exact Nat.le_refl _
        · rw [z]; exact Nat.le_add_right _ _
      exact I1.fpOk hle (I1.hok.fresh hle)
end L2

section 
namespace Bits
open PySem PyProof.Rows

end Bits
end 

section 
namespace TL
open PySem PySem.Builtin PySem.Builtin.Str PySem.StrLaws

/-! ### the list functions -/

/-! ### the model's split and partition are these -/

/-! ### computing spl and par -/

/-! ### digits -/

/-! ### words: x.split() -/
end TL
end 

namespace L2
open PySem PySem.Spec PyProof.Rows

section
variable {X : Cx} {pins : List (Addr × Obj)} {σ : St} {H : Hp} {s : Shared} {Q : VK}
end

section
variable {X : Cx}

/-! ### of a text alone -/

/-! ### of a text and a text -/

end

section
variable {X : Cx} {o e : Expr} {to te : TE}

end
end L2

namespace L2
open PySem PySem.Spec PyProof.Rows

section
variable {X : Cx}
end

/-! ### slices of a text -/

end L2

namespace Att
open PySem PySem.W PySem.Calls PyProof.Rows

/-! ### the script -/

/-! ### the attachment: holds_open's last premise (the goal 'hc' behind k_head) from a wpAny of the law's body -/

/-! ### rules over ANY heap (no ledger) from facts about the written part K: the library's own take a ledger (News) for what they write -/
section
variable {prog : Program} {w : World} {A : Around} {E : Value → Shared → Prop} {s : Shared} {K : Frag}

/-! the whole heap as the ledger: makes every rule that writes through a ledger a rule over any heap -/

end
end Att

namespace L2
open PySem PySem.Spec PyProof.Rows

end L2

namespace L2
open PySem PySem.Spec PyProof.Rows

end L2

/- THE LAST THEOREM (shape; LID, My.* are yours):
   My.Adr: a structure of the addresses that your layer names (classes, functions); My.Txt K t: a structure (Prop) of the equations over K;
   My.txt_mk : {K} {implicit addresses ..} (e1 : nsIn K mainGlobals "law" = some (some (.ref f))) (e2 : K.lookup f = some ⟨oc, od, .func (fnOf "law" "law" params body scope dV kV doc pm an cdv ct), sl⟩) (e3 : codeIn K cdv "law" = true) .. : ∃ t, My.Txt K t

set_option maxRecDepth 100000 in
set_option maxHeartbeats 0 in
theorem PySem.Challenge.cw_LID_holds : PySem.Challenge.rw_LID.Holds := by
  w_on; o_law; k_head; (case hw => w_witness2)
  k_fill
  refine L2.walk_of (l := PySem.Challenge.rw_LID) (n := 63) (k := 40) (x := "script") (CX := fun w => ..) (sp := fun _ => My.sp_law) rfl (by decide) rfl ⟨rfl, by decide, by decide⟩ (fun w h Y => PySem.W.kIn_of Y) ?F ?S ?C
  case F =>
    intro w mg fa h KX G hmg
    have T : ∃ t, My.Txt (L2.KOf KX) t := by
      dsimp only [L2.KOf]                          -- K must stand as «<heap const> w.params» for k_is
      refine' My.txt_mk ?e1 ?e2 ?e3 ..
      (case e1 => PySem.W.k_is)                    -- in the order: a name -> its address -> its object -> its parts
      (case e2 => PySem.W.k_is)
      ..
    obtain ⟨t, T⟩ := T
    have e0 := hmg.symm.trans (PySem.W.mg_of KX G T.law)
    cases e0                                       -- fa is the law's own address
    exact ⟨_, fun s u => .of_eq rfl, fun base kb nb => My.law_fn T kb nb⟩     -- if «.of_eq rfl» comes too early: refine' ⟨_, ?b, fun base kb nb => My.law_fn T kb nb⟩; exact fun s u => .of_eq rfl
  case S => exact fun w H a ns hl hO hS => ..
  case C => exact ..
(the tactic k_is has no namespace: write k_is) -/

/-! SHORT WORDS over the layer: a def of the text, its body, what a loop and a test want. -/
namespace L2
open PySem PySem.Spec PyProof.Rows

/-! ### the text by places -/
/-- the j-th statement of a class's body -/
def inClass (s : Stmt) (j : Nat) : Stmt := match s with
  | .ClassDef _ _ _ body _ _ _ _ _ _ _ => body.getD j (.Pass ⟨0, 0, 0, 0⟩)
  | _ => .Pass ⟨0, 0, 0, 0⟩
def defArgs (s : Stmt) : Arguments := match s with
  | .FunctionDef _ a _ _ _ _ _ _ _ _ => a
  | _ => { posonlyargs := [], args := [], vararg := none, kwonlyargs := [], kw_defaults := [], kwarg := none, defaults := [] }
def defBody (s : Stmt) : List Stmt := match s with
  | .FunctionDef _ _ b _ _ _ _ _ _ _ => b
  | _ => []
def defScope (s : Stmt) : Scope := match s with
  | .FunctionDef _ _ _ _ _ _ sc _ _ _ => sc
  | _ => { kind := .function, names := [], isGenerator := false, isCoroutine := false }

/-! ### no exception leaves a def -/
abbrev CX0 : CXT := fun _ _ _ _ _ _ => False
abbrev E0 : XK := fun _ _ _ => False
theorem pass0 {X : Cx} : Passes CX0 X E0 := fun _ _ _ _ _ _ _ h => h.elim

/-! ### a def (or method) of the text as it stands behind the top -/
inductive FunI (K : PySem.W.Frag) (x qual : Str) (st : Stmt) (f : Addr) (fd : FuncData) : Prop
  | mk (oc : Value) (od : Option Addr) (kV doc pm : Value) (an : Option Addr) (cdv ct : Value) (osl : Array (Option Value))
    (e : fd = PySem.W.fnOf x qual (defArgs st) (defBody st) (defScope st) .none kV doc pm an cdv ct) (l : K.lookup f = some ⟨oc, od, .func fd, osl⟩) (c : PySem.W.codeIn K cdv qual = true) : FunI K x qual st f fd
structure Fun (K : PySem.W.Frag) (x qual : Str) (st : Stmt) (f : Addr) (fd : FuncData) : Prop where
  ex : FunI K x qual st f fd
  kp : PySem.W.keepIn K (.ref f) = true
section
variable {P : Program} {w : World} {K : PySem.W.Frag} {mg : Str → Option Value} {base : Heap}
/-- THE RULE for a def: its body as a term of rules, and the reading of that term -/
theorem Fun.ok {x qual : Str} {st : Stmt} {f : Addr} {fd : FuncData} {N ps : List Str} {k : Nat} {sp : Sp} (F : Fun K x qual st f fd) (S : FnScope N ps (defScope st)) (len : ∀ vs H Q E, sp vs H Q E → vs.length = ps.length)
    (hbody : ∀ (cdv : Value) (A : Around) (outer : List Env) (s : Shared) (H : Hp) (vs : List V) (Q : VK) (E : XK), Room k (A.deeper (envOfC qual (defScope st) s.heap.objs.size f cdv)) → sp vs H Q E →
      ∃ t, PSs (cxOf CX0 P w K mg base N qual (defScope st) f cdv A outer s H E).nox (defBody st) t ∧ t { nx := fun _ H' => Q .non H', rt := Q } (start N vs) H) : FnOk P w K mg base CX0 (k + 1) f fd ps sp := by
  obtain ⟨oc, od, kV, doc, pm, an, cdv, ct, osl, rfl, lk, hcd⟩ := F.ex
  refine fn_of lk hcd S len fun A outer s H vs Q E hr hsp => ?_
  obtain ⟨t, h, q⟩ := hbody cdv A outer s H vs Q E hr hsp
  exact ⟨t, h.nox, q⟩
/-- how its arguments bind (no defaults): h is «fun _ _ _ _ _ _ us hl => match us, hl with | [_, _], _ => rfl», one _ a parameter -/
theorem Fun.binds {x qual : Str} {st : Stmt} {f : Addr} {fd : FuncData} {ps : List Str} (F : Fun K x qual st f fd)
    (h : ∀ (kV doc pm : Value) (an : Option Addr) (cdv ct : Value) (us : List Value), us.length = ps.length → bindArgs (PySem.W.fnOf x qual (defArgs st) (defBody st) (defScope st) .none kV doc pm an cdv ct) ⟨us, []⟩ = pure (ps.zip us)) : Binds K fd ps [] := by
  obtain ⟨oc, od, kV, doc, pm, an, cdv, ct, osl, rfl, lk, hcd⟩ := F.ex
  exact .all (h kV doc pm an cdv ct)
theorem fun_mk {x qual : Str} {st : Stmt} {f : Addr} {oc : Value} {od an : Option Addr} {osl : Array (Option Value)} {kV doc pm cdv ct : Value} (l : K.lookup f = some ⟨oc, od, .func (PySem.W.fnOf x qual (defArgs st) (defBody st) (defScope st) .none kV doc pm an cdv ct), osl⟩)
    (c : PySem.W.codeIn K cdv qual = true) (k : PySem.W.keepIn K (.ref f) = true) : Fun K x qual st f (PySem.W.fnOf x qual (defArgs st) (defBody st) (defScope st) .none kV doc pm an cdv ct) := ⟨⟨oc, od, kV, doc, pm, an, cdv, ct, osl, rfl, l, c⟩, k⟩
end
theorem hu_of {A : Around} {k : Nat} (hr : Room k A) : A.units + 1 < cLine := Nat.lt_of_le_of_lt (Nat.add_le_add_left (by decide : 1 ≤ 64) _) hr.units
theorem small1000 {n : Nat} (h : n ≤ 1000) : n < sizeLine := Nat.lt_of_le_of_lt h (by decide)

/-! ### expressions in short: the name that stands in the i-th slot -/
section
variable {X : Cx}
theorem pv (i : Nat) {x : Str} {pos : Pos} (hN : X.N[i]? = some x := by rfl) (hv : Vis X.env.scope x := by first | exact Or.inl rfl | exact Or.inr (Or.inl rfl) | exact Or.inr (Or.inr rfl)) (hd : (x == ("__debug__" : Str)) = false := by decide)
    (hcd : (x == ("__classdict__" : Str)) = false := by decide) : PE X (.Name x pos) (tVar i) := pe_var hN hv hd hcd
end

/-! ### tests -/
theorem iteF {A B : Prop} (h : B) : if false = true then A else B := by
  rw [if_neg Bool.false_ne_true]
  exact h
theorem iteT {A B : Prop} (h : A) : if true = true then A else B := by
  rw [if_pos rfl]
  exact h
theorem ite2 {c A B : Prop} [Decidable c] (h1 : c → A) (h2 : ¬ c → B) : if c then A else B := by
  by_cases h : c
  · rw [if_pos h]
    exact h1 h
  · rw [if_neg h]
    exact h2 h

/-! ### heaps -/
/-- all that was tracked is as it was -/
def Same (H H' : Hp) : Prop := ∀ b o, H b = some o → H' b = some o
theorem Same.refl (H : Hp) : Same H H := fun _ _ h => h
theorem Same.trans {H H1 H2 : Hp} (a : Same H H1) (b : Same H1 H2) : Same H H2 := fun c o h => b c o (a c o h)
theorem Same.free {H H' : Hp} (e : Same H H') {l : Addr} (h : H' l = Option.none) : H l = Option.none := by
  cases q : H l with
  | none => rfl
  | some o =>
    rw [e l o q] at h
    cases h
theorem Same.seq {K : PySem.W.Frag} {H H' : Hp} {a : Addr} {xs : List V} (e : Same H H') (h : SqL K H a xs) : SqL K H' a xs := by
  rcases h with (h | ⟨o, h⟩) | h
  · exact .inl (.inl (e _ _ h))
  · exact .inl (.inr ⟨o, e _ _ h⟩)
  · exact .inr h

/-! ### a dict's pairs: keys that differ -/
section
variable {κ : Type} [DecidableEq κ]
theorem nd_snoc : ∀ {l : List κ} {k : κ}, l.Nodup → ¬ k ∈ l → (l ++ [k]).Nodup
  | [], k, _, _ => by simp
  | a :: r, k, h, hk => by
    obtain ⟨h1, h2⟩ := List.nodup_cons.mp h
    show (a :: (r ++ [k])).Nodup
    refine List.nodup_cons.mpr ⟨fun m => ?_, nd_snoc h2 fun m => hk (List.mem_cons.mpr (Or.inr m))⟩
    rcases List.mem_append.mp m with q | q
    · exact h1 q
    · exact hk (List.mem_cons.mpr (Or.inl (List.mem_singleton.mp q).symm))
end
/-! ### lists -/
theorem nd_ix {α : Type} {l : List α} (hN : l.Nodup) {i j : Nat} {x : α} (a : l[i]? = some x) (b : l[j]? = some x) : i = j := by
  obtain ⟨h1, e1⟩ := List.getElem?_eq_some_iff.mp a
  obtain ⟨h2, e2⟩ := List.getElem?_eq_some_iff.mp b
  exact (List.getElem_inj hN).mp (e1.trans e2.symm)
end L2

section
set_option Elab.async false
set_option linter.all false
set_option maxRecDepth 100000
set_option maxHeartbeats 2000000
namespace L2
open PySem PySem.Spec PyProof.Rows
open PySem.W (WData Codec OpenSpec Well WellAll ReadsW ReadsAllW)
/-! ### an answer as data -/
mutual
/-- x stands for the datum d, lists and tuples all the way -/
inductive Dw (K : PySem.W.Frag) (H : Hp) : V → WData → Prop
  | non : Dw K H .non .none
  | bl (b : Bool) : Dw K H (.bl b) (.bool b)
  | int (i : Int) : Dw K H (.int i) (.int i)
  | str (x : Str) : Dw K H (.str x) (.str x)
  | byt (b : Array UInt8) : Dw K H (.byt b) (.bytes b.toList)
  | lst {a : Addr} {xs : List V} {ds : List WData} : SqL K H a xs → DwAll K H xs ds → Dw K H (.ref a) (.list ds)
  | tup {a : Addr} {xs : List V} {ds : List WData} : SqT K H a xs → DwAll K H xs ds → Dw K H (.ref a) (.tuple ds)
inductive DwAll (K : PySem.W.Frag) (H : Hp) : List V → List WData → Prop
  | nil : DwAll K H [] []
  | cons {v : V} {vs : List V} {d : WData} {ds : List WData} : Dw K H v d → DwAll K H vs ds → DwAll K H (v :: vs) (d :: ds)
end
theorem dw_ints {K : PySem.W.Frag} {H : Hp} : ∀ ns : List Int, DwAll K H (ns.map V.int) (ns.map WData.int)
  | [] => .nil
  | n :: r => .cons (.int n) (dw_ints r)
theorem ints_dw {K : PySem.W.Frag} {H : Hp} : ∀ (ns : List Int) (xs : List V), DwAll K H xs (ns.map WData.int) → xs = ns.map V.int
  | [], xs, h => by
    cases h
    rfl
  | n :: r, xs, h => by
    cases h with
    | cons h1 h2 =>
      cases h1
      rw [ints_dw r _ h2] <;> rfl
section
variable {P : Program} {w : World} {K : PySem.W.Frag} {H : Hp} {h : Heap} {R : PySem.W.WRecords} {cl : Str → Option Addr}
theorem sqL_at {a : Addr} {xs : List V} (hok : HOk P w H h) (KX : K.In h) (q : SqL K H a xs) : ∃ (its : List Value) (o : Obj) (n : Nat), Vals xs its ∧ h.get? a = some o ∧ o.cls = .type "list" ∧ o.data = .seq its.toArray n := by
  rcases q with q | ⟨o, its, n, e, hc, _, hd, _, hv⟩
  · obtain ⟨_, its, n, hv, e⟩ := (show ObjOk P w H h a (.lst xs) from q.ok hok)
    exact ⟨its, _, n, hv, e, rfl, rfl⟩
  · exact ⟨its.toList, o, n, hv, KX _ _ e, hc, by simp [hd]⟩
theorem sqT_at {a : Addr} {xs : List V} (hok : HOk P w H h) (KX : K.In h) (q : SqT K H a xs) : ∃ (its : List Value) (o : Obj) (n : Nat), Vals xs its ∧ h.get? a = some o ∧ o.cls = .type "tuple" ∧ o.data = .seq its.toArray n := by
  rcases q with q | ⟨o, its, n, e, hc, hd, _, hv⟩
  · obtain ⟨_, its, hv, o, e, hc, n, hd⟩ := (show ObjOk P w H h a (.tup xs) from q.ok hok)
    exact ⟨its, o, n, hv, e, hc, hd⟩
  · exact ⟨its.toList, o, n, hv, KX _ _ e, hc, by simp [hd]⟩
mutual
theorem Dw.reads (hok : HOk P w H h) (KX : K.In h) : ∀ (d : WData) (v : V) (u : Value), Dw K H v d → RelV v u → ∃ as, ReadsW R cl h u d as
  | .none, _, _, x, r => by
    cases x
    cases r
    exact ⟨_, ReadsW.none⟩
  | .bool b, _, _, x, r => by
    cases x
    cases r
    exact ⟨_, ReadsW.bool b⟩
  | .int i, _, _, x, r => by
    cases x
    obtain ⟨t, rfl⟩ := r
    exact ⟨_, ReadsW.int i t⟩
  | .str s, _, _, x, r => by
    cases x
    obtain ⟨t, rfl⟩ := r
    exact ⟨_, ReadsW.str s t⟩
  | .bytes b, _, _, x, r => by
    cases x
    obtain ⟨t, rfl⟩ := r
    exact ⟨_, ReadsW.bytes _ t⟩
  | .list ds, _, _, x, r => by
    cases x with
    | lst hs ha =>
      cases r
      obtain ⟨its, o, n, rv, ho, hc, hd⟩ := sqL_at hok KX hs
      obtain ⟨as, hr⟩ := Dw.readsAll hok KX ds _ its ha rv
      exact ⟨_, ReadsW.list ho hc hd hr⟩
  | .tuple ds, _, _, x, r => by
    cases x with
    | tup hs ha =>
      cases r
      obtain ⟨its, o, n, rv, ho, hc, hd⟩ := sqT_at hok KX hs
      obtain ⟨as, hr⟩ := Dw.readsAll hok KX ds _ its ha rv
      exact ⟨_, ReadsW.tuple ho hc hd hr⟩
  | .float _, _, _, x, _ => by cases x
  | .dict _, _, _, x, _ => by cases x
  | .bytearray _, _, _, x, _ => by cases x
  | .set _, _, _, x, _ => by cases x
  | .frozenset _, _, _, x, _ => by cases x
  | .obj _ _, _, _, x, _ => by cases x
theorem Dw.readsAll (hok : HOk P w H h) (KX : K.In h) : ∀ (ds : List WData) (vs : List V) (us : List Value), DwAll K H vs ds → Vals vs us → ∃ as, ReadsAllW R cl h us ds as
  | [], _, _, x, r => by
    cases x
    cases r
    exact ⟨_, ReadsAllW.nil⟩
  | d :: ds, _, _, x, r => by
    cases x with
    | cons h1 h2 =>
      cases r with
      | cons r1 r2 =>
        obtain ⟨as, q1⟩ := Dw.reads hok KX d _ _ h1 r1
        obtain ⟨bs, q2⟩ := Dw.readsAll hok KX ds _ _ h2 r2
        exact ⟨_, ReadsAllW.cons q1 q2⟩
end
end
/-! ### the arguments -/
mutual
/-- data that a codec tells -/
def plW : WData → Bool
  | .none => true
  | .bool _ => true
  | .int _ => true
  | .str _ => true
  | .bytes _ => true
  | .list xs => plWs xs
  | .tuple xs => plWs xs
  | _ => false
def plWs : List WData → Bool
  | [] => true
  | x :: r => plW x && plWs r
end
theorem plWs_map {α : Type} {f : α → WData} (h : ∀ a, plW (f a) = true) : ∀ l : List α, plWs (l.map f) = true
  | [] => rfl
  | x :: r => by
    show (plW (f x) && plWs (r.map f)) = true
    rw [h x, plWs_map h r] <;> rfl
theorem pl_enc : ∀ (c : Codec) (a : c.denote), plW (c.enc a) = true
  | .unit, _ => rfl
  | .bool, _ => rfl
  | .int _ _, _ => rfl
  | .nat _ _, _ => rfl
  | .u8, _ => rfl
  | .bytes _ _, _ => rfl
  | .text _ _ _ _, _ => rfl
  | .list _ _ c, a => plWs_map (fun x => pl_enc c x) a
  | .pair c d, a => by
    show (plW (c.enc a.1) && (plW (d.enc a.2) && true)) = true
    rw [pl_enc c a.1, pl_enc d a.2] <;> rfl
  | .triple c d e, a => by
    show (plW (c.enc a.1) && (plW (d.enc a.2.1) && (plW (e.enc a.2.2) && true))) = true
    rw [pl_enc c a.1, pl_enc d a.2.1, pl_enc e a.2.2] <;> rfl
  | .option c, none => rfl
  | .option c, some x => pl_enc c x
theorem pl_encAll : ∀ (cs : List Codec) (a : Codec.denoteAll cs), plWs (Codec.encAll cs a) = true
  | [], _ => rfl
  | c :: cs, a => by
    show (plW (c.enc a.1) && plWs (Codec.encAll cs a.2)) = true
    rw [pl_enc c a.1, pl_encAll cs a.2] <;> rfl
theorem weight_mem : ∀ {xs : List WData} {d : WData}, d ∈ xs → d.weight ≤ WData.weightAll xs
  | [], d, h => absurd h (by simp)
  | x :: r, d, h => by
    show d.weight ≤ x.weight + 1 + WData.weightAll r
    rcases List.mem_cons.mp h with e | m
    · rw [e]
      omega
    · have z := weight_mem m
      omega
def toV : Value → V
  | .none => .non
  | .bool b => .bl b
  | .int i _ => .int i
  | .str x _ => .str x
  | .bytes b _ => .byt b
  | .ref a => .ref a
  | _ => .non
/-- a value of the arguments, its objects among A -/
def OkU (A : List Addr) : Value → Prop
  | .none => True
  | .bool _ => True
  | .int _ _ => True
  | .str _ _ => True
  | .bytes _ _ => True
  | .ref a => a ∈ A
  | _ => False
theorem OkU.mono {A B : List Addr} (h : ∀ a ∈ A, a ∈ B) : ∀ {u : Value}, OkU A u → OkU B u := fun {u} x => by
  cases u with
  | ref a => exact h a x
  | none => trivial
  | bool b => trivial
  | int i t => trivial
  | str s t => trivial
  | bytes b t => trivial
  | _ => exact False.elim x
theorem relV_toV {A : List Addr} {u : Value} (x : OkU A u) : RelV (toV u) u := by
  cases u with
  | ref a => rfl
  | none => rfl
  | bool b => rfl
  | int i t => exact ⟨t, rfl⟩
  | str s t => exact ⟨t, rfl⟩
  | bytes b t => exact ⟨t, rfl⟩
  | _ => exact False.elim x
theorem vals_toV {A : List Addr} : ∀ {vs : List Value}, (∀ u ∈ vs, OkU A u) → Vals (vs.map toV) vs
  | [], _ => .nil
  | u :: r, h => .cons (relV_toV (h u (List.mem_cons_self ..))) (vals_toV fun x hx => h x (List.mem_cons_of_mem _ hx))
/-- an object of the arguments -/
def ArgOb (h : Heap) (A : List Addr) (a : Addr) : Prop := ∃ vs : List Value, vs.length ≤ sizeLine ∧ (∀ u ∈ vs, OkU A u) ∧
  (h.get? a = some { cls := .type "list", data := .seq vs.toArray } ∨ h.get? a = some { cls := .type "tuple", data := .seq vs.toArray })
theorem ArgOb.mono {h : Heap} {A B : List Addr} {a : Addr} (k : ∀ a ∈ A, a ∈ B) (x : ArgOb h A a) : ArgOb h B a := by
  obtain ⟨vs, h1, h2, h3⟩ := x
  exact ⟨vs, h1, fun u hu => (h2 u hu).mono k, h3⟩
theorem wellAll_len {P : Params} {h : Heap} : ∀ {vs : List Value} {ds : List WData}, WellAll P h vs ds → vs.length = ds.length
  | _, _, .nil => rfl
  | _, _, .cons _ b => by
    show _ + 1 = _ + 1
    rw [wellAll_len b]
theorem well_list {P : Params} {h : Heap} {v : Value} {ds : List WData} (x : Well P h v (.list ds)) : ∃ (a : Addr) (vs : List Value), v = .ref a ∧ h.get? a = some { cls := .type "list", data := .seq vs.toArray } ∧ WellAll P h vs ds := by
  cases x with
  | list ho hall => exact ⟨_, _, rfl, ho, hall⟩
theorem well_tuple {P : Params} {h : Heap} {v : Value} {ds : List WData} (x : Well P h v (.tuple ds)) : ∃ (a : Addr) (vs : List Value), v = .ref a ∧ h.get? a = some { cls := .type "tuple", data := .seq vs.toArray } ∧ WellAll P h vs ds := by
  cases x with
  | tuple ho hall => exact ⟨_, _, rfl, ho, hall⟩
theorem well_cons {P : Params} {h : Heap} {us : List Value} {d : WData} {ds : List WData} (x : WellAll P h us (d :: ds)) : ∃ (v : Value) (vs : List Value), us = v :: vs ∧ Well P h v d ∧ WellAll P h vs ds := by
  cases x with
  | cons a b => exact ⟨_, _, rfl, a, b⟩
theorem line_of {n : Nat} (h : n ≤ 1048576) : n ≤ sizeLine := Nat.le_trans h (by decide)
section
variable {P : Params} {h : Heap}
mutual
theorem area_one : ∀ (d : WData) (v : Value), Well P h v d → plW d = true → d.weight ≤ 1048576 → ∃ A : List Addr, OkU A v ∧ ∀ a ∈ A, ArgOb h A a
  | .none, _, x, _, _ => by
    cases x
    exact ⟨[], trivial, fun a m => absurd m (by simp)⟩
  | .bool b, _, x, _, _ => by
    cases x
    exact ⟨[], trivial, fun a m => absurd m (by simp)⟩
  | .int i, _, x, _, _ => by
    cases x
    exact ⟨[], trivial, fun a m => absurd m (by simp)⟩
  | .str s, _, x, _, _ => by
    cases x
    exact ⟨[], trivial, fun a m => absurd m (by simp)⟩
  | .bytes b, _, x, _, _ => by
    cases x
    exact ⟨[], trivial, fun a m => absurd m (by simp)⟩
  | .list ds, _, x, p, z => by
    obtain ⟨a, vs, rfl, ho, hall⟩ := well_list x
    have z2 : WData.weightAll ds ≤ 1048576 := z
    obtain ⟨A, h1, h2⟩ := area_all ds _ hall p fun d hd => Nat.le_trans (weight_mem hd) z2
    have k : ∀ b ∈ A, b ∈ a :: A := fun b hb => List.mem_cons_of_mem _ hb
    refine ⟨a :: A, List.mem_cons_self .., fun b hb => ?_⟩
    rcases List.mem_cons.mp hb with e | m
    · rw [e]
      exact ⟨vs, line_of (by rw [wellAll_len hall]; exact Nat.le_trans (PySem.W.length_le_weightAllW ds) z2), fun u hu => (h1 u hu).mono k, .inl ho⟩
    · exact (h2 b m).mono k
  | .tuple ds, _, x, p, z => by
    obtain ⟨a, vs, rfl, ho, hall⟩ := well_tuple x
    have z2 : WData.weightAll ds ≤ 1048576 := z
    obtain ⟨A, h1, h2⟩ := area_all ds _ hall p fun d hd => Nat.le_trans (weight_mem hd) z2
    have k : ∀ b ∈ A, b ∈ a :: A := fun b hb => List.mem_cons_of_mem _ hb
    refine ⟨a :: A, List.mem_cons_self .., fun b hb => ?_⟩
    rcases List.mem_cons.mp hb with e | m
    · rw [e]
      exact ⟨vs, line_of (by rw [wellAll_len hall]; exact Nat.le_trans (PySem.W.length_le_weightAllW ds) z2), fun u hu => (h1 u hu).mono k, .inr ho⟩
    · exact (h2 b m).mono k
  | .float _, _, _, p, _ => Bool.noConfusion (show false = true from p)
  | .dict _, _, _, p, _ => Bool.noConfusion (show false = true from p)
  | .bytearray _, _, _, p, _ => Bool.noConfusion (show false = true from p)
  | .set _, _, _, p, _ => Bool.noConfusion (show false = true from p)
  | .frozenset _, _, _, p, _ => Bool.noConfusion (show false = true from p)
  | .obj _ _, _, _, p, _ => Bool.noConfusion (show false = true from p)
theorem area_all : ∀ (ds : List WData) (vs : List Value), WellAll P h vs ds → plWs ds = true → (∀ d ∈ ds, d.weight ≤ 1048576) → ∃ A : List Addr, (∀ u ∈ vs, OkU A u) ∧ ∀ a ∈ A, ArgOb h A a
  | [], _, x, _, _ => by
    cases x
    exact ⟨[], fun u m => absurd m (by simp), fun a m => absurd m (by simp)⟩
  | d :: ds, _, x, p, z => by
    obtain ⟨v, vs, rfl, x1, x2⟩ := well_cons x
    have q : plW d = true ∧ plWs ds = true := Bool.and_eq_true_iff.mp p
    obtain ⟨A, a1, a2⟩ := area_one d v x1 q.1 (z d (List.mem_cons_self ..))
    obtain ⟨B, b1, b2⟩ := area_all ds vs x2 q.2 fun e he => z e (List.mem_cons_of_mem _ he)
    have kA : ∀ b ∈ A, b ∈ A ++ B := fun b hb => List.mem_append.mpr (.inl hb)
    have kB : ∀ b ∈ B, b ∈ A ++ B := fun b hb => List.mem_append.mpr (.inr hb)
    refine ⟨A ++ B, fun u hu => ?_, fun b hb => ?_⟩
    · rcases List.mem_cons.mp hu with e | m
      · rw [e]
        exact a1.mono kA
      · exact (b1 u m).mono kB
    · rcases List.mem_append.mp hb with m | m
      · exact (a2 b m).mono kA
      · exact (b2 b m).mono kB
end
end
/-- what is tracked of an argument's object -/
def hoOf (o : Obj) : Option HO := match o.data with
  | .seq vs _ => if (o.cls == Value.type "list") = true then some (.frz o (.lst (vs.toList.map toV))) else some (.frz o (.tup (vs.toList.map toV)))
  | _ => none
def argH (K : PySem.W.Frag) (h : Heap) (A : List Addr) : Hp := fun b => if b ∈ A then (if (K.lookup b).isNone = true then (h.get? b).bind hoOf else none) else none
/-- nothing is tracked but what is known to the object -/
def OnlyF (H : Hp) : Prop := ∀ b, H b = none ∨ ∃ o u, H b = some (.frz o u)
theorem hoOf_lst (vs : List Value) : hoOf { cls := .type "list", data := .seq vs.toArray } = some (.frz { cls := .type "list", data := .seq vs.toArray } (.lst (vs.map toV))) := by
  show (if (Value.type "list" == Value.type "list") = true then some (HO.frz { cls := .type "list", data := .seq vs.toArray } (.lst (vs.toArray.toList.map toV))) else some (HO.frz { cls := .type "list", data := .seq vs.toArray } (.tup (vs.toArray.toList.map toV)))) = _
  rw [if_pos (beq_self_eq_true _)]
theorem hoOf_tup (vs : List Value) : hoOf { cls := .type "tuple", data := .seq vs.toArray } = some (.frz { cls := .type "tuple", data := .seq vs.toArray } (.tup (vs.map toV))) := by
  show (if (Value.type "tuple" == Value.type "list") = true then some (HO.frz { cls := .type "tuple", data := .seq vs.toArray } (.lst (vs.toArray.toList.map toV))) else some (HO.frz { cls := .type "tuple", data := .seq vs.toArray } (.tup (vs.toArray.toList.map toV)))) = _
  rw [if_neg (by decide)]
section
variable {P : Program} {w : World} {K : PySem.W.Frag} {h : Heap} {A : List Addr}
theorem argH_at {b : Addr} {o : Obj} (hb : b ∈ A) (hk : K.lookup b = none) (e : h.get? b = some o) : argH K h A b = hoOf o := by
  unfold argH
  rw [if_pos hb, hk, if_pos (show (none : Option Obj).isNone = true from rfl), e] <;> rfl
theorem of_argH {b : Addr} {u : HO} (q : argH K h A b = some u) : b ∈ A ∧ K.lookup b = none := by
  unfold argH at q
  by_cases hb : b ∈ A
  · rw [if_pos hb] at q
    cases hk : K.lookup b with
    | none => exact ⟨hb, rfl⟩
    | some o =>
      rw [hk, if_neg (by simp)] at q
      cases q
  · rw [if_neg hb] at q
    cases q
/-- what stands tracked -/
theorem argH_is (ar : ∀ a ∈ A, ArgOb h A a) {b : Addr} {u : HO} (q : argH K h A b = some u) : K.lookup b = none ∧ ∃ vs : List Value, vs.length ≤ sizeLine ∧ (∀ u ∈ vs, OkU A u) ∧
    ((h.get? b = some { cls := .type "list", data := .seq vs.toArray } ∧ u = .frz { cls := .type "list", data := .seq vs.toArray } (.lst (vs.map toV))) ∨
     (h.get? b = some { cls := .type "tuple", data := .seq vs.toArray } ∧ u = .frz { cls := .type "tuple", data := .seq vs.toArray } (.tup (vs.map toV)))) := by
  obtain ⟨hb, hk⟩ := of_argH q
  obtain ⟨vs, h1, h2, h3⟩ := ar b hb
  refine ⟨hk, vs, h1, h2, ?_⟩
  rcases h3 with e | e
  · rw [argH_at hb hk e, hoOf_lst] at q
    exact .inl ⟨e, (Option.some.inj q).symm⟩
  · rw [argH_at hb hk e, hoOf_tup] at q
    exact .inr ⟨e, (Option.some.inj q).symm⟩
theorem argH_only (ar : ∀ a ∈ A, ArgOb h A a) : OnlyF (argH K h A) := fun b => by
  cases q : argH K h A b with
  | none => exact .inl rfl
  | some u =>
    obtain ⟨_, vs, _, _, ⟨_, e⟩ | ⟨_, e⟩⟩ := argH_is ar q
    · exact .inr ⟨_, _, by rw [e]⟩
    · exact .inr ⟨_, _, by rw [e]⟩
theorem argH_ok (ar : ∀ a ∈ A, ArgOb h A a) : HOk P w (argH K h A) h := fun b u q => by
  obtain ⟨_, vs, h1, h2, ⟨e, rfl⟩ | ⟨e, rfl⟩⟩ := argH_is ar q
  · exact ⟨e, by rw [List.length_map]; exact h1, vs, _, vals_toV h2, e⟩
  · exact ⟨e, by rw [List.length_map]; exact h1, vs, vals_toV h2, _, e, rfl, _, rfl⟩
theorem seq_inj {c c' : Value} {vs us : List Value} (e : (some { cls := c, data := .seq vs.toArray } : Option Obj) = some { cls := c', data := .seq us.toArray }) : c = c' ∧ vs = us := by
  have e1 := Option.some.inj e
  have e2 : c = c' := congrArg Obj.cls e1
  have e3 : Data.seq vs.toArray = Data.seq us.toArray := congrArg Obj.data e1
  injection e3 with e4
  refine ⟨e2, ?_⟩
  have e5 := congrArg Array.toList e4
  simpa using e5
/-- a list argument -/
theorem argL (KX : K.In h) (ar : ∀ a ∈ A, ArgOb h A a) {a : Addr} {vs : List Value} (ha : a ∈ A) (e : h.get? a = some { cls := .type "list", data := .seq vs.toArray }) : (∀ u ∈ vs, OkU A u) ∧ SqL K (argH K h A) a (vs.map toV) := by
  obtain ⟨us, h1, h2, h3⟩ := ar a ha
  have hu : us = vs := by
    rcases h3 with q | q
    · rw [e] at q
      exact (seq_inj q).2.symm
    · rw [e] at q
      exact absurd (Value.type.inj (seq_inj q).1) (by decide)
  subst hu
  refine ⟨h2, ?_⟩
  cases hk : K.lookup a with
  | none => exact .inl (.inr ⟨_, by rw [argH_at ha hk e, hoOf_lst]⟩)
  | some o =>
    have e2 := KX a o hk
    rw [e] at e2
    obtain rfl := Option.some.inj e2
    exact .inr ⟨_, us.toArray, _, hk, rfl, rfl, rfl, by rw [List.size_toArray]; exact h1, by simpa using vals_toV h2⟩
theorem argT (KX : K.In h) (ar : ∀ a ∈ A, ArgOb h A a) {a : Addr} {vs : List Value} (ha : a ∈ A) (e : h.get? a = some { cls := .type "tuple", data := .seq vs.toArray }) : (∀ u ∈ vs, OkU A u) ∧ SqT K (argH K h A) a (vs.map toV) := by
  obtain ⟨us, h1, h2, h3⟩ := ar a ha
  have hu : us = vs := by
    rcases h3 with q | q
    · rw [e] at q
      exact absurd (Value.type.inj (seq_inj q).1) (by decide)
    · rw [e] at q
      exact (seq_inj q).2.symm
  subst hu
  refine ⟨h2, ?_⟩
  cases hk : K.lookup a with
  | none => exact .inl (.inr ⟨_, by rw [argH_at ha hk e, hoOf_tup]⟩)
  | some o =>
    have e2 := KX a o hk
    rw [e] at e2
    obtain rfl := Option.some.inj e2
    exact .inr ⟨_, us.toArray, _, hk, rfl, rfl, by rw [List.size_toArray]; exact h1, by simpa using vals_toV h2⟩
mutual
theorem dw_one {Pm : Params} (KX : K.In h) (ar : ∀ a ∈ A, ArgOb h A a) : ∀ (d : WData) (v : Value), Well Pm h v d → plW d = true → OkU A v → Dw K (argH K h A) (toV v) d
  | .none, _, x, _, _ => by
    cases x
    exact .non
  | .bool b, _, x, _, _ => by
    cases x
    exact .bl b
  | .int i, _, x, _, _ => by
    cases x
    exact .int i
  | .str s, _, x, _, _ => by
    cases x
    exact .str s
  | .bytes b, _, x, _, _ => by
    cases x
    have z := Dw.byt (K := K) (H := argH K h A) b.toArray
    exact z
  | .list ds, _, x, p, hu => by
    obtain ⟨a, vs, rfl, ho, hall⟩ := well_list x
    obtain ⟨h2, hs⟩ := argL KX ar hu ho
    exact .lst hs (dw_all KX ar ds _ hall p h2)
  | .tuple ds, _, x, p, hu => by
    obtain ⟨a, vs, rfl, ho, hall⟩ := well_tuple x
    obtain ⟨h2, hs⟩ := argT KX ar hu ho
    exact .tup hs (dw_all KX ar ds _ hall p h2)
  | .float _, _, _, p, _ => Bool.noConfusion (show false = true from p)
  | .dict _, _, _, p, _ => Bool.noConfusion (show false = true from p)
  | .bytearray _, _, _, p, _ => Bool.noConfusion (show false = true from p)
  | .set _, _, _, p, _ => Bool.noConfusion (show false = true from p)
  | .frozenset _, _, _, p, _ => Bool.noConfusion (show false = true from p)
  | .obj _ _, _, _, p, _ => Bool.noConfusion (show false = true from p)
theorem dw_all {Pm : Params} (KX : K.In h) (ar : ∀ a ∈ A, ArgOb h A a) : ∀ (ds : List WData) (vs : List Value), WellAll Pm h vs ds → plWs ds = true → (∀ u ∈ vs, OkU A u) → DwAll K (argH K h A) (vs.map toV) ds
  | [], _, x, _, _ => by
    cases x
    exact .nil
  | d :: ds, _, x, p, hu => by
    obtain ⟨v, vs, rfl, x1, x2⟩ := well_cons x
    have q : plW d = true ∧ plWs ds = true := Bool.and_eq_true_iff.mp p
    exact .cons (dw_one KX ar d v x1 q.1 (hu _ (List.mem_cons_self ..))) (dw_all KX ar ds vs x2 q.2 fun u m => hu u (List.mem_cons_of_mem _ m))
end
end
/-! ### the call -/
theorem spec_call {P : Program} {w : World} {K : PySem.W.Frag} {mg mb : Str → Option Value} {CX : CXT} {k : Nat} {fa : Addr} {fd : FuncData} {ps : List Str} {sp : Sp} {s₁ : Shared} {vals : List Value} {ds : List WData} {R : PySem.W.WRecords} {cl : Str → Option Addr} {d0 : WData}
    (KX : K.In s₁.heap) (hns : s₁.heap.Ns mainGlobals mg) (hb : s₁.heap.Ns builtinsNs mb) (hbb : ∀ x : Str, x ≠ "__name__" → mb x = bootBuiltins x) (hlim : s₁.heap.NoLimit) (hg : s₁.gens = #[])
    (hwl : WellAll w.params s₁.heap vals ds) (hpl : plWs ds = true) (hwt : ∀ d ∈ ds, d.weight ≤ 1048576) (hr : Room k callerA)
    (F : ∀ base : Heap, K.In base → base.Ns mainGlobals mg → FnOk P w K mg base CX k fa fd ps sp) (hbind : ∀ (s : Shared) (us : List Value), us.length = ps.length → BindsTo s fd ⟨us, []⟩ (ps.zip us)) (hlen : ds.length = ps.length)
    (hsp : ∀ (H : Hp) (xs : List V), OnlyF H → DwAll K H xs ds → sp xs H (fun v H' => Dw K H' v d0) fun _ _ _ => False)
    (hCX : ∀ H e s', CX [] H s₁ (fun _ _ _ => False) e s' → False) :
    codeAny (model P w) callerA (.call (.ref fa) ⟨vals, []⟩) (fun r s' => ∃ u as, r = .ok (.ret u) ∧ ReadsW R cl s'.heap u d0 as ∧ OldK s₁.heap s'.heap ∧ s'.os = s₁.os ∧ AllBare s'.gens) s₁ := by
  obtain ⟨A, ho, ar⟩ := area_all ds vals hwl hpl hwt
  have hO : OnlyF (argH K s₁.heap A) := argH_only ar
  have hok : HOk P w (argH K s₁.heap A) s₁.heap := argH_ok ar
  have hS := dw_all KX ar ds vals hwl hpl ho
  have hV := vals_toV ho
  have hK : ∀ b u, argH K s₁.heap A b = some u → K.lookup b = none := fun b u q => (argH_is ar q).1
  have noA : ∀ {b : Addr} {o : Obj} {es : Array DictEntry} {ep : Nat}, s₁.heap.get? b = some o → o.data = .dict es ep → argH K s₁.heap A b = none := fun {b o es ep} e d => by
    cases q : argH K s₁.heap A b with
    | none => rfl
    | some u =>
      obtain ⟨_, vs, _, _, ⟨e2, _⟩ | ⟨e2, _⟩⟩ := argH_is ar q
      · rw [e2] at e
        cases e
        have d' : Data.seq vs.toArray _ = Data.dict es ep := d
        cases d'
      · rw [e2] at e
        cases e
        have d' : Data.seq vs.toArray _ = Data.dict es ep := d
        cases d'
  generalize argH K s₁.heap A = H at hO hok hS hK noA
  have base_of : ∀ {b : Addr} {o : Obj}, s₁.heap.get? b = some o → H b = none → (hidT s₁.heap H).get? b = some o := fun e n => hidT_get e n
  have nsK : ∀ {b : Addr} {m : Str → Option Value}, s₁.heap.Ns b m → (hidT s₁.heap H).Ns b m := fun {b m} ⟨o, es, ep, e, d, r⟩ => ⟨o, es, ep, base_of e (noA e d), d, r⟩
  have nK : ∀ b o, K.lookup b = some o → H b = none := fun b o e => by
    cases q : H b with
    | none => rfl
    | some u =>
      rw [hK b u q] at e
      cases e
  have hKb : K.In (hidT s₁.heap H) := fun b o e => base_of (KX b o e) (nK b o e)
  have hM : Mod K mg (hidT s₁.heap H) := ⟨hKb, nsK hns, ⟨mb, nsK hb, hbb⟩, let ⟨mc, h1, h2⟩ := hlim; ⟨mc, nsK h1, h2⟩⟩
  have e0 : Env0 P w K mg (hidT s₁.heap H) callerA [] s₁ H := ⟨rfl, hM, fun b o e => of_hidT e, Nat.le_of_eq (hidT_size _ _), trivial, fun b hb => absurd (show b ∈ ([] : List Addr) from hb) (by simp), hok, .of_eq hg⟩
  have hl : vals.length = ps.length := by rw [wellAll_len hwl]; exact hlen
  refine codeAny_mono ((F _ hKb (nsK hns)).run callerA [] s₁ H ⟨vals, []⟩ vals (vals.map toV) _ _ hr e0 (hbind s₁ vals hl) hV (hsp H _ hO hS)) fun r s' x => ?_
  cases r with
  | error e => exact (hCX H e s' x).elim
  | ok fl =>
    cases fl with
    | next => exact False.elim x
    | brk => exact False.elim x
    | cont => exact False.elim x
    | ret u =>
      obtain ⟨v, H', os, bare, un, hok', r', q⟩ := x
      have kept : ∀ b o, s₁.heap.get? b = some o → s'.heap.get? b = some o := fun b o e => by
        cases q2 : H b with
        | none => exact un.keep b o e q2 (by intro z; exact absurd (show b ∈ ([] : List Addr) from z) (by simp)) (by simp)
        | some u2 =>
          rcases hO b with z | ⟨ob, u3, z⟩
          · rw [q2] at z
            cases z
          · have z2 := un.frzs b ob _ z
            obtain ⟨e1, _⟩ := hok b _ z
            obtain ⟨e2, _⟩ := hok' b _ z2
            rw [e] at e1
            cases e1
            exact e2
      have KX' : K.In s'.heap := fun b o e => kept b o (KX b o e)
      obtain ⟨as, hrd⟩ := Dw.reads (R := R) (cl := cl) hok' KX' d0 v u q r'
      exact ⟨u, as, rfl, hrd, OldK.of_keep kept, os, bare⟩
/-! ### the row -/
theorem layable_weight {ds : List WData} (h : WData.layableAll ds = true) : ∀ d ∈ ds, d.weight ≤ 1048576 := fun d hd =>
  (PySem.W.layableW_iff.mp (List.all_eq_true.mp h d hd)).2.2
theorem encAll_len : ∀ (cs : List Codec) (a : Codec.denoteAll cs), (Codec.encAll cs a).length = cs.length
  | [], _ => rfl
  | c :: cs, a => by
    show (Codec.encAll cs a.2).length + 1 = cs.length + 1
    rw [encAll_len cs a.2]
/-- the goal that k_headS leaves (case hc), from the promise of the row's def: whatever the arguments that the codecs let and the row asks for, the def gives what stands for enc (f ..) -/
theorem walk_spec {r : OpenSpec} {k : Nat} {q : Program} {loose : List Str} {XP : (Str → Option Value) → Heap → Prop} {YP : World → Heap → Prop} {d : DefRec} {K : Params → PySem.W.Frag} {CX : World → CXT} {ps : List Str} {sp : World → Sp}
    (hwell : r.wellSaid = true) (hdf : d.params.defaults = []) (hlen : r.args.length = ps.length) (hr : Room k callerA)
    (hY : ∀ (w : World) (h : Heap), YP w h → (K w.params).In h)
    (F : ∀ (w : World) (mg : Str → Option Value) (fa : Addr) (h : Heap), YP w h → (K w.params).In h → h.Ns mainGlobals mg → mg d.name = some (.ref fa) →
      ∃ fd : FuncData, (∀ (s : Shared) (us : List Value), us.length = ps.length → BindsTo s fd ⟨us, []⟩ (ps.zip us)) ∧
        ∀ base : Heap, (K w.params).In base → base.Ns mainGlobals mg → FnOk r.prog w (K w.params) mg base (CX w) k fa fd ps (sp w))
    (hsp : ∀ (w : World) (H : Hp) (xs : List V) (a : Codec.denoteAll r.args), OnlyF H → Codec.withinAll r.args a = true → Codec.app r.args r.asked a = true → DwAll (K w.params) H xs (Codec.encAll r.args a) →
      sp w xs H (fun v H' => Dw (K w.params) H' v (r.ret.enc (Codec.app r.args r.f a))) fun _ _ _ => False)
    (hCX : ∀ (w : World) (H : Hp) (s : Shared) (e : Value) (s' : Shared), CX w [] H s (fun _ _ _ => False) e s' → False) :
    PySem.W.WalkOS q loose XP YP r d [] (fun f vs => PySem.call f vs) := by
  intro w s_0 s₁ mg mb G Y fa o pm cd doc dV kV ho hd hcd hD hmg hg args vals as hpre hlay hrd hwl hlo
  obtain ⟨a, e1, e2⟩ := PySem.W.os_pre_some hpre
  obtain ⟨e3, hwi⟩ := Codec.encAll_of_decAll r.args args a e1
  subst e3
  have KX := hY w _ Y
  obtain ⟨fd, hb, hF⟩ := F w mg fa _ Y KX G.T.g hmg
  refine PySem.W.enter_call (codeAny_mono (spec_call (R := []) (cl := classAt s_0.heap) (d0 := r.ret.enc (Codec.app r.args r.f a)) KX G.T.g G.T.b G.T.builtins G.T.nolimit hg hwl (pl_encAll _ _) (layable_weight hlay) hr hF hb (by rw [encAll_len]; exact hlen)
    (fun H xs hO hS => hsp w H xs a hO hwi e2 hS) fun H e s' => hCX w H s₁ e s') fun r' s' hq => ?_)
  obtain ⟨u, as', rfl, h1, h2, h3, h4⟩ := hq
  exact ⟨.inl ⟨u, _, as', rfl, fun _ => rfl, h1, (OpenSpec.post_iff hwell hwi _ _).mpr rfl, fun z => Bool.noConfusion (show false = true from z)⟩, h2, h3, h4⟩
/-- the same where the promise hangs on the written part alone -/
theorem walk_specK {r : OpenSpec} {k : Nat} {q : Program} {loose : List Str} {XP : (Str → Option Value) → Heap → Prop} {YP : World → Heap → Prop} {d : DefRec} {K : Params → PySem.W.Frag} {CX : CXT} {ps : List Str} {sp : PySem.W.Frag → Sp}
    (hwell : r.wellSaid = true) (hdf : d.params.defaults = []) (hlen : r.args.length = ps.length) (hr : Room k callerA)
    (hY : ∀ (w : World) (h : Heap), YP w h → (K w.params).In h)
    (F : ∀ (w : World) (mg : Str → Option Value) (fa : Addr) (h : Heap), YP w h → (K w.params).In h → h.Ns mainGlobals mg → mg d.name = some (.ref fa) →
      ∃ fd : FuncData, (∀ (s : Shared) (us : List Value), us.length = ps.length → BindsTo s fd ⟨us, []⟩ (ps.zip us)) ∧
        ∀ base : Heap, (K w.params).In base → base.Ns mainGlobals mg → FnOk r.prog w (K w.params) mg base CX k fa fd ps (sp (K w.params)))
    (hsp : ∀ (K : PySem.W.Frag) (H : Hp) (xs : List V) (a : Codec.denoteAll r.args), OnlyF H → Codec.withinAll r.args a = true → Codec.app r.args r.asked a = true → DwAll K H xs (Codec.encAll r.args a) →
      sp K xs H (fun v H' => Dw K H' v (r.ret.enc (Codec.app r.args r.f a))) fun _ _ _ => False)
    (hCX : ∀ (H : Hp) (s : Shared) (e : Value) (s' : Shared), CX [] H s (fun _ _ _ => False) e s' → False) :
    PySem.W.WalkOS q loose XP YP r d [] (fun f vs => PySem.call f vs) :=
  walk_spec (K := K) (CX := fun _ => CX) (sp := fun w => sp (K w.params)) hwell hdf hlen hr hY F (fun w H xs a h1 h2 h3 h4 => hsp (K w.params) H xs a h1 h2 h3 h4) fun _ H s e s' => hCX H s e s'
end L2

end

section
set_option Elab.async false
set_option linter.all false
set_option maxRecDepth 100000
namespace L2
open PySem PySem.Spec PyProof.Rows
section
variable {X : Cx}
/-- all(..), any(..) of a list of bools -/
theorem call_all (hc : X.calm = true) : CallR X (.builtin "all") (fun xs H Q => AllP X.K xs H Q) := cr_all hc
theorem call_any (hc : X.calm = true) : CallR X (.builtin "any") (fun xs H Q => AnyP X.K xs H Q) := cr_any hc

/-- f(..) where f is a local name that holds one of the text's own defs -/
def tCallV (X : Cx) (i : Nat) (t : TA) : TE := fun σ H Q => ∃ f, σ[i]? = some (some (.ref f)) ∧ PySem.W.keepIn X.K (.ref f) = true ∧ t σ H fun vs H1 => ∃ k fd ps sp, FnOk X.prog X.w X.K X.mg X.base CX0 k f fd ps sp ∧ Room k X.A ∧ Binds X.K fd ps [] ∧ sp vs H1 Q E0
theorem pe_callV {i : Nat} {x : Str} {p pos : Pos} {e : Expr} {es : List Expr} {t : TA} (hN : X.N[i]? = some x) (hv : Vis X.env.scope x) (ha : PA X (e :: es) t) (hd : (x == ("__debug__" : Str)) = false := by decide) (hcd : (x == ("__classdict__" : Str)) = false := by decide)
    (he : starEach (e :: es) X.env = (false, eval e X.env) :: starEach es X.env := by rfl) (hpl : (backTo pos (starEach es X.env)).any (·.1) = false := by rfl) :
    PE X (.Call (.Name x p) (e :: es) [] pos) (tCallV X i t) := by
  intro pins s σ H Q I h
  obtain ⟨f, e1, hk, h⟩ := h
  have hp := pe_var (X := X) (pos := p) hN hv hd hcd pins s σ H (fun v H' => v = .ref f ∧ H' = H) I ⟨_, e1, rfl, rfl⟩
  refine wpAny_Call_Name_kw (thn hp fun u s1 hq => ?_)
  obtain ⟨v, H1, I1, r1, e2, e3⟩ := hq
  subst e2 e3
  cases r1
  refine PySem.W.callWith_K (h₀ := X.base) I1.ok.mod.kin hk (thn (ha pos pins s1 σ _ _ I1 h) fun us s2 hq => ?_) he hpl
  obtain ⟨vs, H2, I2, r, k, fd, ps, sp, F, hr, hb, q⟩ := hq
  refine ⟨I2.kIn, ?_⟩
  exact run_fn (dvs := []) F hr hb .nil pass0 I2 r (by rw [List.append_nil]; exact q)
end
end L2

end

section
set_option Elab.async false
set_option linter.all false
set_option maxRecDepth 100000
namespace L2
open PySem PySem.Spec PyProof.Rows

theorem Same.upd {H H1 : Hp} {D : Addr} {o : HO} (s : Same H H1) (h : H D = Option.none) : Same H (L2.upd H1 D o) := fun b u e => by
  rw [upd_ne (ne_of_none e h)]
  exact s b u e
theorem Same.new {H : Hp} {D : Addr} {o : HO} (h : H D = Option.none) : Same H (L2.upd H D o) := (Same.refl H).upd h
/-- an iterator that yields n things while «ok» stands; item: what the i-th is, and the heap behind it -/
structure Walk (J : It) (n : Nat) (ok : Hp → Prop) (item : Nat → V → Hp → Hp → Prop) : Prop where
  go : ∀ i H, ok H → i < n → J.go i H
  stop : ∀ H, ok H → J.stop n H
  yld : ∀ i H x H', ok H → i < n → J.yld i H x H' → item i x H H'
def itemL (xs : List V) (i : Nat) (x : V) (H H' : Hp) : Prop := H' = H ∧ xs[i]? = some x
def itemE (xs : List V) (i : Nat) (v : V) (H H' : Hp) : Prop := ∃ T x, v = .ref T ∧ H T = none ∧ H' = upd H T (.tup [.int (i : Nat), x]) ∧ xs[i]? = some x
def itemZ (xs ys : List V) (i : Nat) (v : V) (H H' : Hp) : Prop := ∃ T x y, v = .ref T ∧ H T = none ∧ H' = upd H T (.tup [x, y]) ∧ xs[i]? = some x ∧ ys[i]? = some y
theorem walk_list (K : PySem.W.Frag) (a : Addr) (xs : List V) : Walk (Itl K a) xs.length (fun H => SqL K H a xs) (itemL xs) where
  go := fun i H h hi => ⟨xs, xs[i], h, List.getElem?_eq_getElem hi⟩
  stop := fun H h => ⟨xs, h, Nat.le_refl _⟩
  yld := fun i H x H' h hi y => ⟨y.1, y.2 xs h⟩
theorem walk_enum (K : PySem.W.Frag) (a : Addr) (xs : List V) : Walk (Ite K a) xs.length (fun H => SqL K H a xs) (itemE xs) where
  go := fun i H h hi => ⟨xs, xs[i], h, List.getElem?_eq_getElem hi⟩
  stop := fun H h => ⟨xs, h, Nat.le_refl _⟩
  yld := fun i H x H' h hi ⟨T, y, e1, e2, e3, e4⟩ => ⟨T, y, e1, e2, e3, e4 xs h⟩
theorem walk_zip (K : PySem.W.Frag) (a b : Addr) (xs ys : List V) (hl : ys.length = xs.length) : Walk (Itz K a b) xs.length (fun H => SqL K H a xs ∧ SqL K H b ys) (itemZ xs ys) where
  go := fun i H h hi => ⟨xs, ys, xs[i], ys[i], h.1, h.2, List.getElem?_eq_getElem hi, List.getElem?_eq_getElem (by omega)⟩
  stop := fun H h => ⟨xs, ys, h.1, h.2, .inl (Nat.le_refl _)⟩
  yld := fun i H x H' h hi ⟨T, y, z, e1, e2, e3, e4, e5⟩ => ⟨T, y, z, e1, e2, e3, e4 xs h.1, e5 ys h.2⟩
theorem walk_range (lo : Int) (n : Nat) : Walk (Itr lo n) n (fun _ => True) (fun i x H H' => H' = H ∧ x = .int (lo + i)) where
  go := fun i H _ hi => hi
  stop := fun H _ => Nat.le_refl _
  yld := fun i H x H' _ _ y => y

/-- for, over any of these -/
theorem for_walk {J : It} {n : Nat} {ok : Hp → Prop} {item : Nat → V → Hp → Hp → Prop} {g : TG} {tb : TS} {D : Ends} {σ : St} {H : Hp} (wk : Walk J n ok item) (Pv : Nat → St → Hp → Prop) (h0 : Pv 0 σ H) (hl : ∀ i σ H, i ≤ n → Pv i σ H → ok H)
    (hs : ∀ i x σ H H', i < n → Pv i σ H → item i x H H' → g x σ H' fun σ2 H2 => tb { D with nx := Pv (i + 1), ct := Pv (i + 1), bk := D.nx } σ2 H2) (hd : ∀ σ H, Pv n σ H → D.nx σ H) :
    ∃ W : Nat → Nat → St → Hp → Prop, (∃ m, W 0 m σ H) ∧ ∀ i m σ H, W i m σ H →
      (J.stop i H ∧ D.nx σ H) ∨ (J.go i H ∧ ∃ N : St → Hp → Prop, (∀ σ' H', N σ' H' → ∃ m', m' < m ∧ W (i + 1) m' σ' H') ∧ ∀ x H', J.yld i H x H' → g x σ H' fun σ2 H2 => tb { D with nx := N, ct := N, bk := D.nx } σ2 H2) := by
  refine ⟨fun i m σ H => m = n - i ∧ i ≤ n ∧ Pv i σ H, ⟨n, by simp, Nat.zero_le _, h0⟩, ?_⟩
  rintro i m σ H ⟨rfl, hi, p⟩
  have q := hl i σ H hi p
  by_cases hlt : i < n
  · exact .inr ⟨wk.go i H q hlt, Pv (i + 1), fun σ' H' p' => ⟨n - (i + 1), by omega, rfl, hlt, p'⟩, fun x H' y => hs i x σ H H' hlt p (wk.yld i H x H' q hlt y)⟩
  · have e : i = n := by omega
    subst e
    exact .inl ⟨wk.stop H q, hd σ H p⟩

theorem yes {σ : L2.St} {H : Hp} {A B : Hp → Prop} (h : A H) : tYes σ H fun b H3 => if b = true then A H3 else B H3 := by
  show if true = true then A H else B H
  exact iteT h
theorem len_fm {α : Type} (out : Nat → Option α) (i : Nat) : ((List.range i).filterMap out).length ≤ i := by
  have := List.length_filterMap_le out (List.range i)
  rw [List.length_range] at this
  exact this
theorem fm_succ {α : Type} (out : Nat → Option α) (i : Nat) : (List.range (i + 1)).filterMap out = (List.range i).filterMap out ++ (out i).toList := by
  rw [List.range_succ, List.filterMap_append]
  cases h : out i with
  | none => simp [h]
  | some y => simp [h]

/-- a comprehension whose element and test only read (and lay new things) -/
theorem lc_walk {J : It} {n : Nat} {ok : Hp → Prop} {item : Nat → V → Hp → Hp → Prop} {g : TG} {tt : TT} {te : TE} {vs : List Nat} {σ : St} {H1 : Hp} {Q : Addr → Hp → Prop} (wk : Walk J n ok item) (out : Nat → Option V) (hok : ∀ H, Same H1 H → ok H) (hz : n ≤ sizeLine)
    (body : ∀ i x H H', i < n → Same H1 H → item i x H H' → ∀ (Ny : V → Hp → Prop) (Nn : Hp → Prop), (∀ y H4, Same H H4 → out i = some y → Ny y H4) → (∀ H3, Same H H3 → out i = none → Nn H3) →
      g x (wipe σ vs) H' fun σ2 H2 => wipe σ2 vs = wipe σ vs ∧ tt σ2 H2 fun b H3 => if b = true then te σ2 H3 Ny else Nn H3)
    (fin : ∀ D H', Same H1 H' → H1 D = none → H' D = some (.lst ((List.range n).filterMap out)) → Q D H') :
    ∀ D, H1 D = none → ∃ W : Nat → Nat → Hp → Prop, (∃ m, W 0 m (upd H1 D (.lst []))) ∧ ∀ i m H, W i m H →
      (J.stop i H ∧ Q D H) ∨ (J.go i H ∧ ∃ Nx : Hp → Prop, (∀ H', Nx H' → ∃ m', m' < m ∧ W (i + 1) m' H') ∧ ∀ x H', J.yld i H x H' → g x (wipe σ vs) H' fun σ2 H2 => wipe σ2 vs = wipe σ vs ∧ tt σ2 H2 fun b H3 =>
        if b = true then te σ2 H3 fun y H4 => AccP D y H4 Nx else Nx H3) := by
  intro D hD
  refine ⟨fun i m H => m = n - i ∧ i ≤ n ∧ Same H1 H ∧ H D = some (.lst ((List.range i).filterMap out)), ⟨n, by simp, Nat.zero_le _, Same.new hD, upd_same⟩, ?_⟩
  rintro i m H ⟨rfl, hi, sm, hDH⟩
  have q := hok H sm
  by_cases hlt : i < n
  · refine .inr ⟨wk.go i H q hlt, fun H' => Same H1 H' ∧ H' D = some (.lst ((List.range (i + 1)).filterMap out)), fun H' p' => ⟨n - (i + 1), by omega, rfl, hlt, p'⟩, fun x H' y => ?_⟩
    refine body i x H H' hlt sm (wk.yld i H x H' q hlt y) _ _ (fun y H4 s4 e => ?_) (fun H3 s3 e => ?_)
    · refine ⟨_, s4 _ _ hDH, Nat.lt_of_le_of_lt (len_fm out i) (Nat.lt_of_lt_of_le hlt hz), (sm.trans s4).upd hD, ?_⟩
      rw [upd_same, fm_succ, e]
      rfl
    · refine ⟨sm.trans s3, ?_⟩
      rw [s3 _ _ hDH, fm_succ, e]
      simp
  · have e : i = n := by omega
    subst e
    exact .inl ⟨wk.stop H q, fin D H sm hD hDH⟩
theorem range_fm {α β : Type} {f : α → Option β} : ∀ (xs : List α) (out : Nat → Option β), (∀ i x, xs[i]? = some x → out i = f x) → (List.range xs.length).filterMap out = xs.filterMap f
  | [], out, _ => rfl
  | x :: xs, out, h => by
    rw [List.length_cons, List.range_succ_eq_map, List.filterMap_cons, List.filterMap_map, List.filterMap_cons, h 0 x rfl, range_fm xs (out ∘ Nat.succ) fun i y e => h (i + 1) y e]
theorem fm_filter {α β : Type} {p : α → Bool} {f : α → β} : ∀ (xs : List α), xs.filterMap (fun x => if p x = true then some (f x) else none) = (xs.filter p).map f
  | [] => rfl
  | x :: xs => by
    rw [List.filterMap_cons, fm_filter xs, List.filter_cons]
    cases h : p x with
    | true => simp
    | false => simp
theorem range_fmM {α β : Type} {f : α → β} (xs : List α) (out : Nat → Option β) (h : ∀ i x, xs[i]? = some x → out i = some (f x)) : (List.range xs.length).filterMap out = xs.map f := by
  rw [range_fm (f := fun x => some (f x)) xs out h]
  exact congrFun (List.filterMap_eq_map (f := f)) xs
end L2

end

section
set_option linter.all false
namespace Lw
open Si51 (Word Part Def Law)

/-! ### Lists -/
theorem nodup_bound : ∀ (n : Nat) (l : List Nat), l.Nodup → (∀ x ∈ l, x < n) → l.length ≤ n
  | 0, l, _, h => by
    cases l with
    | nil => exact Nat.le_refl _
    | cons a t => exact absurd (h a (by simp)) (Nat.not_lt_zero _)
  | n + 1, l, nd, h => by
    by_cases hn : n ∈ l
    · have h1 := nodup_bound n (l.erase n) (nd.erase n) fun x hx => by
        have hx1 := (nd.mem_erase_iff).mp hx
        have := h x hx1.2
        have := hx1.1
        omega
      rw [List.length_erase_of_mem hn] at h1
      omega
    · have := nodup_bound n l nd fun x hx => by
        have h1 := h x hx
        have h2 : x ≠ n := fun e => hn (e ▸ hx)
        omega
      omega

theorem mapM_none_iff {α β : Type} {f : α → Option β} : ∀ {l : List α}, l.mapM f = none ↔ ∃ a ∈ l, f a = none
  | [] => by simp
  | a :: l => by
    rw [List.mapM_cons]
    cases h : f a with
    | none => simp [h]
    | some b =>
      have ih := mapM_none_iff (f := f) (l := l)
      cases h2 : l.mapM f with
      | none =>
        rw [h2] at ih
        simp only [true_iff] at ih
        obtain ⟨x, hx, e⟩ := ih
        simp
        exact .inr ⟨x, hx, e⟩
      | some bs =>
        rw [h2] at ih
        simp at ih
        simp [h]
        exact ih

theorem mapM_congr {α β : Type} {f g : α → Option β} : ∀ {l : List α}, (∀ a ∈ l, f a = g a) → l.mapM f = l.mapM g
  | [], _ => rfl
  | a :: l, h => by
    rw [List.mapM_cons, List.mapM_cons, h a (by simp), mapM_congr fun b hb => h b (by simp [hb])]

theorem mapM_mono {α β : Type} {f g : α → Option β} : ∀ {l : List α} {r : List β}, (∀ a ∈ l, ∀ b, f a = some b → g a = some b) → l.mapM f = some r → l.mapM g = some r
  | [], r, _, e => e
  | a :: l, r, h, e => by
    rw [List.mapM_cons] at e ⊢
    cases h1 : f a with
    | none => rw [h1] at e; cases e
    | some b =>
      rw [h1] at e
      cases h2 : l.mapM f with
      | none => rw [h2] at e; cases e
      | some bs =>
        rw [h2] at e
        rw [h a (by simp) b h1, mapM_mono (fun c hc => h c (by simp [hc])) h2]
        exact e

theorem mapM_map {α β γ : Type} {f : α → Option β} (g : β → γ) : ∀ (l : List α), (l.mapM fun a => (f a).map g) = (l.mapM f).map (List.map g)
  | [] => rfl
  | a :: l => by
    rw [List.mapM_cons, List.mapM_cons, mapM_map g l]
    cases f a with
    | none => rfl
    | some b => cases l.mapM f <;> rfl

theorem total_cons (a : Nat) (l : List Nat) : Si51.total (a :: l) = a + Si51.total l := rfl
theorem total_lengths {α : Type} : ∀ (l : List (List α)), Si51.total (l.map List.length) = l.flatten.length
  | [] => rfl
  | a :: l => by
    rw [List.map_cons, total_cons, total_lengths l, List.flatten_cons, List.length_append]

theorem getD_map_lt {α β : Type} {f : α → β} {l : List α} {d : Nat} {z : β} {y : α} (h : d < l.length) : (l.map f).getD d z = f (l.getD d y) := by
  rw [List.getD_eq_getElem?_getD, List.getD_eq_getElem?_getD, List.getElem?_map, List.getElem?_eq_getElem h]
  rfl
/-! ### Which definition counts -/
section
variable {l : Law} {day : Nat}
theorem fold_later_mem : ∀ (xs : List (Def × Nat)) (z : Option (Def × Nat)) (y : Def × Nat), xs.foldl Si51.later z = some y → z = some y ∨ y ∈ xs
  | [], z, y, h => .inl h
  | x :: xs, z, y, h => by
    rcases fold_later_mem xs _ y h with e | e
    · unfold Si51.later at e
      cases z with
      | none => have := Option.some.inj e; exact .inr (by simp [this])
      | some q =>
        dsimp only at e
        split at e
        · exact .inl e
        · have := Option.some.inj e; exact .inr (by simp [this])
    · exact .inr (by simp [e])

/-- what the own definition is like -/
theorem ownDef_spec {p w d : Nat} (h : Si51.ownDef l p w day = some d) : ∃ x, l.defs[d]? = some x ∧ x.part = p ∧ x.word = w ∧ Si51.inForce x day = true := by
  unfold Si51.ownDef at h
  cases e : ((l.defs.zipIdx.filter fun x => x.1.part == p && (x.1.word == w && Si51.inForce x.1 day)).foldl Si51.later none) with
  | none => rw [e] at h; cases h
  | some y =>
    rw [e] at h
    rcases fold_later_mem _ _ _ e with q | q
    · cases q
    · have hy := List.mem_filter.mp q
      have h2 : y.2 = d := Option.some.inj h
      have h3 := List.mem_zipIdx hy.1
      simp at hy
      refine ⟨y.1, ?_, hy.2.1, hy.2.2.1, hy.2.2.2⟩
      rw [← h2]
      have := List.mk_mem_zipIdx_iff_getElem?.mp (show (y.1, y.2) ∈ l.defs.zipIdx from hy.1)
      exact this

theorem meansFrom_spec {w : Nat} : ∀ {f p d : Nat}, Si51.meansFrom l w day f p = some d → ∃ x, l.defs[d]? = some x ∧ x.word = w ∧ Si51.inForce x day = true
  | 0, _, _, h => by cases h
  | f + 1, p, d, h => by
    unfold Si51.meansFrom at h
    cases e : Si51.ownDef l p w day with
    | some d' =>
      rw [e] at h
      obtain rfl : d' = d := Option.some.inj h
      obtain ⟨x, h1, h2, h3, h4⟩ := ownDef_spec e
      exact ⟨x, h1, h3, h4⟩
    | none =>
      rw [e] at h
      dsimp only at h
      cases q : ((l.parts[p]?).bind fun x => x.up) with
      | none => rw [q] at h; cases h
      | some u =>
        rw [q] at h
        exact meansFrom_spec (f := f) (p := u) h
theorem means_spec {p w d : Nat} (h : Si51.means l p w day = some d) : ∃ x, l.defs[d]? = some x ∧ x.word = w ∧ Si51.inForce x day = true := meansFrom_spec h
theorem means_lt {p w d : Nat} (h : Si51.means l p w day = some d) : d < l.defs.length := by
  obtain ⟨x, h1, _⟩ := means_spec h
  exact (List.getElem?_eq_some_iff.mp h1).1

/-- every part is in one that was told before it -/
def Wf (l : Law) : Prop := ∀ (i : Nat) (p : Part) (u : Nat), l.parts[i]? = some p → p.up = some u → u < i

theorem meansFrom_fuel (wf : Wf l) {w : Nat} : ∀ {f g p : Nat}, p < f → p < g → Si51.meansFrom l w day f p = Si51.meansFrom l w day g p
  | 0, _, _, h, _ => absurd h (Nat.not_lt_zero _)
  | _ + 1, 0, _, _, h => absurd h (Nat.not_lt_zero _)
  | f + 1, g + 1, p, h1, h2 => by
    unfold Si51.meansFrom
    cases e : Si51.ownDef l p w day with
    | some d => rfl
    | none =>
      dsimp only
      cases q : l.parts[p]? with
      | none => rfl
      | some x =>
        rw [Option.bind_some]
        cases r : x.up with
        | none => rfl
        | some u =>
          have := wf p x u q r
          exact meansFrom_fuel wf (by omega) (by omega)
/-- one step up -/
theorem means_step (wf : Wf l) {p w : Nat} {x : Part} (hx : l.parts[p]? = some x) : Si51.means l p w day = match Si51.ownDef l p w day with
    | some d => some d
    | none => match x.up with
      | none => none
      | some u => Si51.means l u w day := by
  have hp : p < l.parts.length := (List.getElem?_eq_some_iff.mp hx).1
  have h1 : Si51.means l p w day = Si51.meansFrom l w day (l.parts.length + 1) p := meansFrom_fuel wf hp (by omega)
  rw [h1]
  unfold Si51.meansFrom
  cases e : Si51.ownDef l p w day with
  | some d => rfl
  | none =>
    dsimp only
    rw [hx, Option.bind_some]
    cases r : x.up with
    | none => rfl
    | some u => rfl

/-! ### Spelling out -/
/-- the body of a definition, spelled out by so many rounds -/
def bodyAt (l : Law) (day f d : Nat) : Option (List Word) := Si51.spell l day f (Si51.def_ l d).part (Si51.def_ l d).body

theorem spell_succ (f p : Nat) (t : List Word) : Si51.spell l day (f + 1) p t = (t.mapM fun w => match Si51.means l p w day with
    | none => some [w]
    | some d => bodyAt l day f d).map List.flatten := rfl

theorem rounds_get : ∀ (f d : Nat), d < l.defs.length → (Si51.rounds l day f).getD d none = (bodyAt l day f d).map List.length
  | 0, d, hd => by
    show (l.defs.map fun _ => none).getD d none = _
    rw [getD_map_lt (y := ⟨0, 0, 0, none, []⟩) hd]
    rfl
  | f + 1, d, hd => by
    show (l.defs.map fun d => Si51.longOf l day (Si51.rounds l day f) d.part d.body).getD d none = _
    rw [getD_map_lt (y := ⟨0, 0, 0, none, []⟩) hd]
    show Si51.longOf l day (Si51.rounds l day f) (Si51.def_ l d).part (Si51.def_ l d).body = (Si51.spell l day (f + 1) (Si51.def_ l d).part (Si51.def_ l d).body).map List.length
    rw [spell_succ]
    unfold Si51.longOf
    have e : ((Si51.def_ l d).body.mapM fun w => match Si51.means l (Si51.def_ l d).part w day with
      | none => some 1
      | some d => (Si51.rounds l day f).getD d none) = ((Si51.def_ l d).body.mapM fun w => (match Si51.means l (Si51.def_ l d).part w day with
      | none => some [w]
      | some d => bodyAt l day f d).map List.length) := mapM_congr fun w _ => by
        cases q : Si51.means l (Si51.def_ l d).part w day with
        | none => rfl
        | some e => exact rounds_get f e (means_lt q)
    refine (congrArg (Option.map Si51.total) e).trans ?_
    rw [mapM_map]
    cases ((Si51.def_ l d).body.mapM fun w => match Si51.means l (Si51.def_ l d).part w day with
      | none => some [w]
      | some d => bodyAt l day f d) with
    | none => rfl
    | some xs => exact congrArg some (total_lengths xs)

theorem longOf_longs (p : Nat) (t : List Word) : Si51.longOf l day (Si51.longs l day) p t = (Si51.spelled l day p t).map List.length := by
  unfold Si51.longOf Si51.spelled
  rw [spell_succ]
  have e : (t.mapM fun w => match Si51.means l p w day with
      | none => some 1
      | some d => (Si51.longs l day).getD d none) = (t.mapM fun w => (match Si51.means l p w day with
      | none => some [w]
      | some d => bodyAt l day l.defs.length d).map List.length) := mapM_congr fun w _ => by
        cases q : Si51.means l p w day with
        | none => rfl
        | some e => exact rounds_get _ e (means_lt q)
  refine (congrArg (Option.map Si51.total) e).trans ?_
  rw [mapM_map]
  cases (t.mapM fun w => match Si51.means l p w day with
      | none => some [w]
      | some d => bodyAt l day l.defs.length d) with
  | none => rfl
  | some xs => exact congrArg some (total_lengths xs)

theorem bodyAt_mono : ∀ {f d : Nat} {x : List Word}, bodyAt l day f d = some x → bodyAt l day (f + 1) d = some x
  | 0, d, x, h => by cases h
  | f + 1, d, x, h => by
    unfold bodyAt at h ⊢
    rw [spell_succ] at h ⊢
    cases e : ((Si51.def_ l d).body.mapM fun w => match Si51.means l (Si51.def_ l d).part w day with
      | none => some [w]
      | some d => bodyAt l day f d) with
    | none => rw [e] at h; cases h
    | some xs =>
      rw [e] at h
      rw [mapM_mono (g := fun w => match Si51.means l (Si51.def_ l d).part w day with
        | none => some [w]
        | some d => bodyAt l day (f + 1) d) (fun w _ b hb => ?_) e]
      · exact h
      · cases q : Si51.means l (Si51.def_ l d).part w day with
        | none => rw [q] at hb; exact hb
        | some d' => rw [q] at hb; exact bodyAt_mono (f := f) hb
/-- a definition that comes to be spelled in the round f + 1 and not before has as many others below it -/
theorem chain : ∀ (f d : Nat), d < l.defs.length → (bodyAt l day (f + 1) d).isSome = true → bodyAt l day f d = none →
    ∃ L : List Nat, L.length = f + 1 ∧ L.Nodup ∧ ∀ e ∈ L, e < l.defs.length ∧ (bodyAt l day (f + 1) e).isSome = true
  | 0, d, hd, h1, _ => ⟨[d], rfl, by simp, fun e he => by
      have : e = d := by simpa using he
      subst this
      exact ⟨hd, h1⟩⟩
  | f + 1, d, hd, h1, h2 => by
    -- one of the words calls one that came in the round before
    have h3 : ∃ w ∈ (Si51.def_ l d).body, (match Si51.means l (Si51.def_ l d).part w day with
      | none => some [w]
      | some d => bodyAt l day f d) = none := by
      unfold bodyAt at h2
      rw [spell_succ] at h2
      exact mapM_none_iff.mp (Option.map_eq_none_iff.mp h2)
    obtain ⟨w, hw, e⟩ := h3
    cases q : Si51.means l (Si51.def_ l d).part w day with
    | none => rw [q] at e; cases e
    | some d' =>
      rw [q] at e
      dsimp only at e
      have h4 : (bodyAt l day (f + 1) d').isSome = true := by
        cases z : bodyAt l day (f + 1) d' with
        | some _ => rfl
        | none =>
          have : bodyAt l day (f + 2) d = none := by
            unfold bodyAt
            rw [spell_succ]
            exact Option.map_eq_none_iff.mpr (mapM_none_iff.mpr ⟨w, hw, by rw [q]; exact z⟩)
          rw [this] at h1
          cases h1
      obtain ⟨L, hl, nd, hL⟩ := chain f d' (means_lt q) h4 e
      refine ⟨d :: L, by simp [hl], List.nodup_cons.mpr ⟨fun hm => ?_, nd⟩, fun x hx => ?_⟩
      · have := (hL d hm).2
        rw [h2] at this
        cases this
      · rcases List.mem_cons.mp hx with rfl | hx
        · exact ⟨hd, h1⟩
        · obtain ⟨z1, z2⟩ := hL x hx
          refine ⟨z1, ?_⟩
          cases z : bodyAt l day (f + 1) x with
          | none => rw [z] at z2; cases z2
          | some y => rw [bodyAt_mono z]; rfl

/-- after as many rounds as there are definitions nothing more comes -/
theorem bodyAt_stable {d : Nat} (hd : d < l.defs.length) : ∀ (k : Nat), bodyAt l day (l.defs.length + k) d = bodyAt l day l.defs.length d
  | 0 => rfl
  | k + 1 => by
    rw [← bodyAt_stable hd k]
    cases e : bodyAt l day (l.defs.length + k) d with
    | some x => exact bodyAt_mono e
    | none =>
      cases z : bodyAt l day (l.defs.length + (k + 1)) d with
      | none => rfl
      | some x =>
        obtain ⟨L, hl, nd, hL⟩ := chain (l.defs.length + k) d hd (by rw [show l.defs.length + k + 1 = l.defs.length + (k + 1) from rfl, z]; rfl) e
        have := nodup_bound l.defs.length L nd fun x hx => (hL x hx).1
        omega

/-- **the body of a definition, spelled out** -/
def bodyOf (l : Law) (day d : Nat) : Option (List Word) := bodyAt l day l.defs.length d
/-- what a word is, spelled out -/
def wordOf (l : Law) (day p : Nat) (w : Word) : Option (List Word) := match Si51.means l p w day with
  | none => some [w]
  | some d => bodyOf l day d

theorem spelled_eq (p : Nat) (t : List Word) : Si51.spelled l day p t = (t.mapM (wordOf l day p)).map List.flatten := rfl
theorem bodyOf_eq {d : Nat} (hd : d < l.defs.length) : bodyOf l day d = ((Si51.def_ l d).body.mapM (wordOf l day (Si51.def_ l d).part)).map List.flatten :=
  (bodyAt_stable hd 1).symm
/-- a set of definitions each of which leads into the set is never spelled out -/
theorem trapped {S : Nat → Prop} (h : ∀ d, S d → ∃ w ∈ (Si51.def_ l d).body, ∃ d', Si51.means l (Si51.def_ l d).part w day = some d' ∧ S d') : ∀ (f d : Nat), S d → bodyAt l day f d = none
  | 0, _, _ => rfl
  | f + 1, d, hd => by
    obtain ⟨w, hw, d', q, hd'⟩ := h d hd
    unfold bodyAt
    rw [spell_succ]
    exact Option.map_eq_none_iff.mpr (mapM_none_iff.mpr ⟨w, hw, by rw [q]; exact trapped h f d' hd'⟩)
theorem bodyOf_trapped {S : Nat → Prop} (h : ∀ d, S d → ∃ w ∈ (Si51.def_ l d).body, ∃ d', Si51.means l (Si51.def_ l d).part w day = some d' ∧ S d') {d : Nat} (hd : S d) : bodyOf l day d = none := trapped h _ d hd

theorem longs_none {d : Nat} (hd : d < l.defs.length) : (Si51.longs l day).getD d none = none ↔ bodyOf l day d = none := by
  unfold Si51.longs
  rw [rounds_get _ d hd]
  exact Option.map_eq_none_iff

/-- the answer of spell and text -/
theorem told_eq (p : Nat) (t : List Word) : Si51.told l day p t = match Si51.spelled l day p t with
    | none => Si51.ok (-7)
    | some x => if 1000 < x.length then Si51.ok (-5) else Si51.listed x := by
  unfold Si51.told
  rw [longOf_longs]
  cases Si51.spelled l day p t with
  | none => rfl
  | some x => rfl

/-! ### The definition that counts for the part itself, number by number -/
/-- the later of two, of this part and word -/
def nextBest (l : Law) (p w : Nat) (z : Option Nat) (d : Nat) : Option Nat :=
  if (Si51.def_ l d).part = p ∧ (Si51.def_ l d).word = w then (match z with
    | none => some d
    | some y => if (Si51.def_ l d).from_ < (Si51.def_ l y).from_ then some y else some d) else z
def best (l : Law) (ds : List Nat) (p w : Nat) : Option Nat := ds.foldl (nextBest l p w) none
def force (l : Law) (day : Nat) : List Nat := (List.range l.defs.length).filter fun d => Si51.inForce (Si51.def_ l d) day
theorem mem_force {d : Nat} : d ∈ force l day ↔ d < l.defs.length ∧ Si51.inForce (Si51.def_ l d) day = true := by
  unfold force
  rw [List.mem_filter, List.mem_range]
theorem def_get {d : Nat} (h : d < l.defs.length) : l.defs[d]? = some (Si51.def_ l d) := by
  unfold Si51.def_
  rw [List.getD_eq_getElem?_getD, List.getElem?_eq_getElem h]
  rfl
theorem def_of {d : Nat} {x : Def} (h : l.defs[d]? = some x) : Si51.def_ l d = x := by
  unfold Si51.def_
  rw [List.getD_eq_getElem?_getD, h]
  rfl
theorem def_mem {d : Nat} (h : d < l.defs.length) : Si51.def_ l d ∈ l.defs := List.mem_of_getElem? (def_get h)
theorem zipIdx_defs (l : Law) : l.defs.zipIdx = (List.range l.defs.length).map fun d => (Si51.def_ l d, d) := by
  apply List.ext_getElem?
  intro i
  rw [List.getElem?_zipIdx, List.getElem?_map]
  by_cases h : i < l.defs.length
  · rw [def_get h, List.getElem?_range h]
    simp
  · rw [List.getElem?_eq_none (by omega), List.getElem?_eq_none (by rw [List.length_range]; omega)]
    rfl
theorem best_fold (p w : Nat) : ∀ (ds : List Nat) (z : Option (Def × Nat)), (∀ y, z = some y → y.1 = Si51.def_ l y.2) →
    ((((ds.map fun d => (Si51.def_ l d, d)).filter fun x => x.1.part == p && (x.1.word == w && Si51.inForce x.1 day)).foldl Si51.later z).map fun x => x.2) = (ds.filter fun d => Si51.inForce (Si51.def_ l d) day).foldl (nextBest l p w) (z.map fun x => x.2)
  | [], z, _ => rfl
  | d :: ds, z, hz => by
    rw [List.map_cons, List.filter_cons, List.filter_cons]
    by_cases hf : Si51.inForce (Si51.def_ l d) day = true
    · rw [if_pos hf]
      by_cases hp : (Si51.def_ l d).part = p ∧ (Si51.def_ l d).word = w
      · have e : ((Si51.def_ l d).part == p && ((Si51.def_ l d).word == w && Si51.inForce (Si51.def_ l d) day)) = true := by simp [hp.1, hp.2, hf]
        rw [if_pos e, List.foldl_cons, List.foldl_cons, best_fold p w ds _ (fun y hy => ?_)]
        · congr 1
          unfold Si51.later nextBest
          rw [if_pos hp]
          cases hz' : z with
          | none => rfl
          | some y =>
            have := hz y hz'
            dsimp only [Option.map_some]
            rw [this]
            split <;> rfl
        · unfold Si51.later at hy
          cases hz' : z with
          | none => rw [hz'] at hy; have := Option.some.inj hy; rw [← this]
          | some q =>
            rw [hz'] at hy
            dsimp only at hy
            split at hy
            · have := Option.some.inj hy; rw [← this]; exact hz q hz'
            · have := Option.some.inj hy; rw [← this]
      · have e : ((Si51.def_ l d).part == p && ((Si51.def_ l d).word == w && Si51.inForce (Si51.def_ l d) day)) = false := by
          rw [Bool.eq_false_iff]
          intro h
          simp at h
          exact hp ⟨h.1, h.2.1⟩
        rw [if_neg (by rw [e]; decide), List.foldl_cons, best_fold p w ds z hz]
        congr 1
        unfold nextBest
        rw [if_neg hp]
    · have e : ((Si51.def_ l d).part == p && ((Si51.def_ l d).word == w && Si51.inForce (Si51.def_ l d) day)) = false := by
        rw [Bool.eq_false_iff]
        intro h
        simp at h
        exact hf h.2.2
      rw [if_neg (by rw [e]; decide), if_neg hf, best_fold p w ds z hz]
theorem best_own (p w : Nat) : best l (force l day) p w = Si51.ownDef l p w day := by
  unfold Si51.ownDef best force
  rw [zipIdx_defs]
  exact (best_fold p w _ none (fun _ h => by cases h)).symm
theorem best_mem (p w : Nat) : ∀ (ds : List Nat) (z : Option Nat) (d : Nat), ds.foldl (nextBest l p w) z = some d → z = some d ∨ d ∈ ds
  | [], z, d, h => .inl h
  | x :: ds, z, d, h => by
    rw [List.foldl_cons] at h
    rcases best_mem p w ds _ d h with e | e
    · unfold nextBest at e
      split at e
      · cases z with
        | none => have := Option.some.inj e; exact .inr (by simp [this])
        | some q =>
          dsimp only at e
          split at e
          · exact .inl e
          · have := Option.some.inj e; exact .inr (by simp [this])
      · exact .inl e
    · exact .inr (by simp [e])

/-! ### Spelling out, cut behind the limit -/
theorem cut_more {α : Type} {a b c : List α} {n : Nat} (h : n ≤ (a ++ b.take n).length) : (a ++ b.take n).take n = (a ++ b ++ c).take n := by
  rw [List.take_append, List.take_append, List.take_append, List.take_take]
  have h1 : n - (a ++ b).length = 0 := by
    rw [List.length_append, List.length_take] at h
    rw [List.length_append]
    omega
  rw [h1, List.take_zero, List.append_nil, Nat.min_eq_left (Nat.sub_le _ _)]
theorem cut_less {α : Type} {b : List α} {n : Nat} (h : (b.take n).length < n) : b.take n = b := by
  rw [List.length_take] at h
  exact List.take_of_length_le (by omega)
theorem mapM_some_get {α β : Type} {f : α → Option β} : ∀ {l : List α} {r : List β}, l.mapM f = some r → r.length = l.length ∧ ∀ (i : Nat) (a : α), l[i]? = some a → ∃ b, r[i]? = some b ∧ f a = some b
  | [], r, h => by
    have e : ([] : List β) = r := Option.some.inj h
    subst e
    exact ⟨rfl, fun i a e => by simp at e⟩
  | x :: l, r, h => by
    rw [List.mapM_cons] at h
    cases h1 : f x with
    | none => rw [h1] at h; cases h
    | some b =>
      rw [h1] at h
      cases h2 : l.mapM f with
      | none => rw [h2] at h; cases h
      | some bs =>
        rw [h2] at h
        have e : b :: bs = r := Option.some.inj h
        subst e
        obtain ⟨hl, hg⟩ := mapM_some_get h2
        refine ⟨by simp [hl], fun i a e => ?_⟩
        cases i with
        | zero =>
          have : x = a := Option.some.inj e
          subst this
          exact ⟨b, rfl, h1⟩
        | succ i => exact hg i a e
theorem mapM_some_of {α β : Type} {f : α → Option β} : ∀ {l : List α}, (∀ a ∈ l, ∃ b, f a = some b) → ∃ r, l.mapM f = some r
  | [], _ => ⟨[], rfl⟩
  | x :: l, h => by
    obtain ⟨b, hb⟩ := h x (by simp)
    obtain ⟨r, hr⟩ := mapM_some_of (l := l) fun a ha => h a (by simp [ha])
    exact ⟨b :: r, by rw [List.mapM_cons, hb, hr]; rfl⟩
theorem bodyOf_spelled {d : Nat} (hd : d < l.defs.length) : bodyOf l day d = Si51.spelled l day (Si51.def_ l d).part (Si51.def_ l d).body := bodyOf_eq hd
theorem means_force {p w d : Nat} (h : Si51.means l p w day = some d) : d ∈ force l day := by
  obtain ⟨x, h1, _, h2⟩ := means_spec h
  rw [mem_force]
  exact ⟨means_lt h, by rw [def_of h1]; exact h2⟩
theorem force_nodup : (force l day).Nodup := List.Nodup.sublist List.filter_sublist List.nodup_range
theorem force_len : (force l day).length ≤ l.defs.length := by
  have := List.length_filter_le (fun d => Si51.inForce (Si51.def_ l d) day) (List.range l.defs.length)
  rw [List.length_range] at this
  exact this
end
end Lw

end

section
set_option linter.all false
namespace Lw
open Si51 (Word Part Def Law)
/-! ### Strictly rising lists -/
theorem rise_dups : ∀ (n : Nat) (l : List Nat), l.length ≤ n → l.Pairwise (· ≤ ·) → l.eraseDups.Pairwise (· < ·)
  | _, [], _, _ => by simp
  | 0, a :: l, h, _ => by simp at h
  | n + 1, a :: l, h, hp => by
    rw [List.eraseDups_cons]
    obtain ⟨h1, h2⟩ := List.pairwise_cons.mp hp
    refine List.pairwise_cons.mpr ⟨fun b hb => ?_, rise_dups n _ ?_ (h2.sublist List.filter_sublist)⟩
    · rw [List.mem_eraseDups, List.mem_filter] at hb
      have h3 := h1 b hb.1
      have h4 : b ≠ a := by
        intro e
        rw [e] at hb
        simp at hb
      omega
    · have := List.length_filter_le (fun b => !b == a) l
      simp at h
      omega
theorem rise_ext : ∀ {a b : List Nat}, a.Pairwise (· < ·) → b.Pairwise (· < ·) → (∀ x, x ∈ a ↔ x ∈ b) → a = b
  | [], [], _, _, _ => rfl
  | [], y :: b, _, _, h => by
    have := (h y).mpr (by simp)
    cases this
  | x :: a, [], _, _, h => by
    have := (h x).mp (by simp)
    cases this
  | x :: a, y :: b, ha, hb, h => by
    obtain ⟨ha1, ha2⟩ := List.pairwise_cons.mp ha
    obtain ⟨hb1, hb2⟩ := List.pairwise_cons.mp hb
    have e : x = y := by
      have h1 := (h x).mp (by simp)
      have h2 := (h y).mpr (by simp)
      rcases List.mem_cons.mp h1 with h1 | h1
      · exact h1
      · rcases List.mem_cons.mp h2 with h2 | h2
        · exact h2.symm
        · have := hb1 x h1
          have := ha1 y h2
          omega
    subst e
    refine congrArg (x :: ·) (rise_ext ha2 hb2 fun z => ?_)
    have hz := h z
    rw [List.mem_cons, List.mem_cons] at hz
    constructor
    · intro q
      rcases hz.mp (.inr q) with e | e
      · have := ha1 z q; omega
      · exact e
    · intro q
      rcases hz.mpr (.inr q) with e | e
      · have := hb1 z q; omega
      · exact e
section
variable {l : Law} {day : Nat}
/-! ### The days on which something begins or ends -/
theorem mem_daysOf {x : Nat} : x ∈ Si51.daysOf l ↔ ∃ d ∈ l.defs, x = d.from_ ∨ d.to_ = some x := by
  unfold Si51.daysOf
  rw [List.mem_eraseDups, List.mem_mergeSort, List.mem_flatMap]
  constructor
  · rintro ⟨d, hd, h⟩
    refine ⟨d, hd, ?_⟩
    rcases List.mem_cons.mp h with h | h
    · exact .inl h
    · exact .inr (by simpa using h)
  · rintro ⟨d, hd, h⟩
    refine ⟨d, hd, ?_⟩
    rcases h with h | h
    · simp [h]
    · simp [h]
theorem daysOf_rise : (Si51.daysOf l).Pairwise (· < ·) := by
  unfold Si51.daysOf
  refine rise_dups _ _ (Nat.le_refl _) ?_
  refine (List.pairwise_mergeSort (le := fun a b => decide (a ≤ b)) (fun a b c h1 h2 => ?_) (fun a b => ?_) _).imp fun h => of_decide_eq_true h
  · have h1 := of_decide_eq_true h1
    have h2 := of_decide_eq_true h2
    exact decide_eq_true (by omega)
  · rw [Bool.or_eq_true, decide_eq_true_iff, decide_eq_true_iff]
    omega
/-- between two days on which nothing begins or ends -/
theorem inForce_still {d : Def} (hd : d ∈ l.defs) {x y : Nat} (h : x ≤ y) (hno : ∀ b ∈ Si51.daysOf l, x < b → b ≤ y → False) : Si51.inForce d x = Si51.inForce d y := by
  have h1 : d.from_ ≤ x ↔ d.from_ ≤ y := by
    constructor
    · intro z; omega
    · intro z
      by_cases q : d.from_ ≤ x
      · exact q
      · exact (hno d.from_ (mem_daysOf.mpr ⟨d, hd, .inl rfl⟩) (by omega) z).elim
  unfold Si51.inForce
  rw [show decide (d.from_ ≤ x) = decide (d.from_ ≤ y) from decide_eq_decide.mpr h1]
  congr 1
  cases ht : d.to_ with
  | none => rfl
  | some t =>
    dsimp only
    refine decide_eq_decide.mpr ⟨fun z => ?_, fun z => by omega⟩
    by_cases q : y < t
    · exact q
    · exact (hno t (mem_daysOf.mpr ⟨d, hd, .inr ht⟩) (by omega) (by omega)).elim
/-- two days on which the same definitions are in force -/
def Alike (l : Law) (x y : Nat) : Prop := ∀ d ∈ l.defs, Si51.inForce d x = Si51.inForce d y
theorem alike_still {x y : Nat} (h : x ≤ y) (hno : ∀ b ∈ Si51.daysOf l, x < b → b ≤ y → False) : Alike l x y := fun _ hd => inForce_still hd h hno
theorem Alike.own {x y : Nat} (h : Alike l x y) (p w : Nat) : Si51.ownDef l p w x = Si51.ownDef l p w y := by
  unfold Si51.ownDef
  congr 2
  refine List.filter_congr fun z hz => ?_
  have hm : z.1 ∈ l.defs := List.mem_of_getElem? (List.mk_mem_zipIdx_iff_getElem?.mp (show (z.1, z.2) ∈ l.defs.zipIdx from hz))
  rw [h z.1 hm]
theorem Alike.meansFrom {x y : Nat} (h : Alike l x y) (w : Nat) : ∀ (f p : Nat), Si51.meansFrom l w x f p = Si51.meansFrom l w y f p
  | 0, _ => rfl
  | f + 1, p => by
    unfold Si51.meansFrom
    rw [h.own p w]
    cases Si51.ownDef l p w y with
    | some d => rfl
    | none =>
      dsimp only
      cases ((l.parts[p]?).bind fun x => x.up) with
      | none => rfl
      | some u => exact Alike.meansFrom h w f u
theorem Alike.means {x y : Nat} (h : Alike l x y) (p w : Nat) : Si51.means l p w x = Si51.means l p w y := h.meansFrom w _ p
theorem Alike.bodyAt {x y : Nat} (h : Alike l x y) : ∀ (f d : Nat), bodyAt l x f d = bodyAt l y f d
  | 0, _ => rfl
  | f + 1, d => by
    unfold Lw.bodyAt
    rw [spell_succ, spell_succ]
    congr 1
    refine mapM_congr fun w _ => ?_
    rw [h.means]
    cases Si51.means l (Si51.def_ l d).part w y with
    | none => rfl
    | some e => exact Alike.bodyAt h f e
theorem Alike.bodyOf {x y : Nat} (h : Alike l x y) (d : Nat) : bodyOf l x d = bodyOf l y d := h.bodyAt _ d
theorem Alike.spelled {x y : Nat} (h : Alike l x y) (p : Nat) (t : List Word) : Si51.spelled l x p t = Si51.spelled l y p t := by
  rw [spelled_eq, spelled_eq]
  congr 1
  refine mapM_congr fun w _ => ?_
  unfold wordOf
  rw [h.means]
  cases Si51.means l p w y with
  | none => rfl
  | some e => exact h.bodyOf e
/-! ### The specification's lists, by the definitions in force -/
theorem circles_eq : Si51.circles l day = (force l day).filter fun d => (bodyOf l day d).isNone := by
  unfold Si51.circles force
  dsimp only
  rw [List.filter_filter]
  refine List.filter_congr fun d hd => ?_
  rw [Bool.and_comm]
  congr 1
  have hd' := List.mem_range.mp hd
  rw [Bool.eq_iff_iff, Option.isNone_iff_eq_none, Option.isNone_iff_eq_none]
  exact longs_none hd'
theorem unused_eq : Si51.unused l day = (force l day).filter fun d => !(Si51.used l day).contains d := by
  unfold Si51.unused force
  rw [List.filter_filter]
  refine List.filter_congr fun d _ => ?_
  rw [Bool.and_comm]
theorem hidden_eq : Si51.hidden l day = (force l day).filter fun d => Si51.ownDef l (Si51.def_ l d).part (Si51.def_ l d).word day != some d := by
  unfold Si51.hidden force
  rw [List.filter_filter]
  refine List.filter_congr fun d _ => ?_
  rw [Bool.and_comm]
/-! ### Needed -/
/-- a definition that a text calls, itself or through others -/
inductive Needed (l : Law) (day : Nat) : Nat → Prop where
  | text {i w d : Nat} {x : Part} (hx : l.parts[i]? = some x) (hw : w ∈ x.text) (h : Si51.means l i w day = some d) : Needed l day d
  | body {e w d : Nat} (he : Needed l day e) (hw : w ∈ (Si51.def_ l e).body) (h : Si51.means l (Si51.def_ l e).part w day = some d) : Needed l day d
theorem mem_calls {d e : Nat} : d ∈ Si51.calls l day e ↔ ∃ w ∈ (Si51.def_ l e).body, Si51.means l (Si51.def_ l e).part w day = some d := by
  unfold Si51.calls
  rw [List.mem_filterMap]
/-- one round of calls -/
def nextR (l : Law) (day : Nat) (s : List Nat) : List Nat := (s ++ s.flatMap (Si51.calls l day)).eraseDups
theorem mem_nextR {s : List Nat} {d : Nat} : d ∈ nextR l day s ↔ d ∈ s ∨ ∃ e ∈ s, d ∈ Si51.calls l day e := by
  unfold nextR
  rw [List.mem_eraseDups, List.mem_append, List.mem_flatMap]
theorem reach_out : ∀ (n : Nat) (s : List Nat), Si51.reach l day (n + 1) s = nextR l day (Si51.reach l day n s)
  | 0, s => rfl
  | n + 1, s => by
    show Si51.reach l day (n + 1) (nextR l day s) = _
    rw [reach_out n (nextR l day s)]
    rfl
def rootsR (l : Law) (day : Nat) : List Nat := (l.parts.zipIdx.flatMap fun x => x.1.text.filterMap fun w => Si51.means l x.2 w day).eraseDups
theorem mem_rootsR {d : Nat} : d ∈ rootsR l day ↔ ∃ (i w : Nat) (x : Part), l.parts[i]? = some x ∧ w ∈ x.text ∧ Si51.means l i w day = some d := by
  unfold rootsR
  rw [List.mem_eraseDups, List.mem_flatMap]
  constructor
  · rintro ⟨y, hy, h⟩
    obtain ⟨w, hw, e⟩ := List.mem_filterMap.mp h
    exact ⟨y.2, w, y.1, List.mk_mem_zipIdx_iff_getElem?.mp (show (y.1, y.2) ∈ l.parts.zipIdx from hy), hw, e⟩
  · rintro ⟨i, w, x, hx, hw, e⟩
    exact ⟨(x, i), List.mk_mem_zipIdx_iff_getElem?.mpr hx, List.mem_filterMap.mpr ⟨w, hw, e⟩⟩
theorem reach_needed : ∀ (n : Nat) (d : Nat), d ∈ Si51.reach l day n (rootsR l day) → Needed l day d
  | 0, d, h => by
    obtain ⟨i, w, x, hx, hw, e⟩ := mem_rootsR.mp h
    exact .text hx hw e
  | n + 1, d, h => by
    rw [reach_out] at h
    rcases mem_nextR.mp h with h | ⟨e, he, h⟩
    · exact reach_needed n d h
    · obtain ⟨w, hw, q⟩ := mem_calls.mp h
      exact .body (reach_needed n e he) hw q
theorem needed_lt {d : Nat} (h : Needed l day d) : d < l.defs.length := by
  cases h with
  | text _ _ h => exact means_lt h
  | body _ _ h => exact means_lt h
theorem reach_chain : ∀ (n d : Nat), d ∈ Si51.reach l day (n + 1) (rootsR l day) → d ∉ Si51.reach l day n (rootsR l day) →
    ∃ L : List Nat, L.length = n + 2 ∧ L.Nodup ∧ ∀ e ∈ L, e ∈ Si51.reach l day (n + 1) (rootsR l day)
  | 0, d, h1, h2 => by
    have h1' := h1
    rw [reach_out] at h1'
    rcases mem_nextR.mp h1' with h | ⟨e, he, h⟩
    · exact absurd h h2
    · refine ⟨[d, e], rfl, ?_, fun x hx => ?_⟩
      · refine List.nodup_cons.mpr ⟨fun z => ?_, by simp⟩
        have : d = e := by simpa using z
        rw [this] at h2
        exact h2 he
      · rcases List.mem_cons.mp hx with rfl | hx
        · exact h1
        · have : x = e := by simpa using hx
          subst this
          rw [reach_out]
          exact mem_nextR.mpr (.inl he)
  | n + 1, d, h1, h2 => by
    have h1' := h1
    rw [reach_out] at h1'
    rcases mem_nextR.mp h1' with h | ⟨e, he, h⟩
    · exact absurd h h2
    · -- e is new in the round before
      have hen : e ∉ Si51.reach l day n (rootsR l day) := fun z => h2 (by
        rw [reach_out]
        exact mem_nextR.mpr (.inr ⟨e, z, h⟩))
      obtain ⟨L, hl, nd, hL⟩ := reach_chain n e he hen
      refine ⟨d :: L, by simp [hl], List.nodup_cons.mpr ⟨fun z => h2 (hL d z), nd⟩, fun x hx => ?_⟩
      rcases List.mem_cons.mp hx with rfl | hx
      · exact h1
      · rw [reach_out]
        exact mem_nextR.mpr (.inl (hL x hx))
theorem reach_closed {d : Nat} (h : d ∈ Si51.reach l day (l.defs.length + 1) (rootsR l day)) : d ∈ Si51.reach l day l.defs.length (rootsR l day) := by
  by_cases q : d ∈ Si51.reach l day l.defs.length (rootsR l day)
  · exact q
  · obtain ⟨L, hl, nd, hL⟩ := reach_chain _ d h q
    have := nodup_bound l.defs.length L nd fun e he => needed_lt (reach_needed _ e (hL e he))
    omega
theorem reach_roots : ∀ (n : Nat) {d : Nat}, d ∈ rootsR l day → d ∈ Si51.reach l day n (rootsR l day)
  | 0, d, h => h
  | n + 1, d, h => by
    rw [reach_out]
    exact mem_nextR.mpr (.inl (reach_roots n h))
theorem mem_used {d : Nat} : d ∈ Si51.used l day ↔ Needed l day d := by
  constructor
  · exact reach_needed _ d
  · intro h
    show d ∈ Si51.reach l day l.defs.length (rootsR l day)
    induction h with
    | text hx hw h => exact reach_roots _ (mem_rootsR.mpr ⟨_, _, _, hx, hw, h⟩)
    | body he hw h ih =>
      refine reach_closed ?_
      rw [reach_out]
      exact mem_nextR.mpr (.inr ⟨_, ih, mem_calls.mpr ⟨_, hw, h⟩⟩)
/-- a set that holds what the texts call, is closed, and holds nothing else -/
theorem used_of {S : Nat → Prop} (h1 : ∀ (i w : Nat) (x : Part) (d : Nat), l.parts[i]? = some x → w ∈ x.text → Si51.means l i w day = some d → S d)
    (h2 : ∀ (e w d : Nat), S e → w ∈ (Si51.def_ l e).body → Si51.means l (Si51.def_ l e).part w day = some d → S d) {d : Nat} (h : Needed l day d) : S d := by
  induction h with
  | text hx hw h => exact h1 _ _ _ _ hx hw h
  | body he hw h ih => exact h2 _ _ _ ih hw h
/-! ### Changes -/
/-- too long on a day; in a circle on a day -/
def long1 (l : Law) (p : Nat) (t : List Word) (x : Nat) : Bool := match Si51.spelled l x p t with
  | some y => decide (1000 < y.length)
  | none => false
def circ1 (l : Law) (p : Nat) (t : List Word) (x : Nat) : Bool := (Si51.spelled l x p t).isNone
theorem long1_eq (l : Law) (p : Nat) (t : List Word) (x : Nat) : (match Si51.longOf l x (Si51.longs l x) p t with
    | some n => decide (Si51.LONG < n)
    | none => false) = long1 l p t x := by
  rw [longOf_longs]
  unfold long1
  cases Si51.spelled l x p t <;> rfl
theorem circ1_eq (l : Law) (p : Nat) (t : List Word) (x : Nat) : (Si51.longOf l x (Si51.longs l x) p t).isNone = circ1 l p t x := by
  rw [longOf_longs]
  unfold circ1
  cases Si51.spelled l x p t <;> rfl
theorem step_changes (l : Law) (p : Nat) (t : List Word) : Si51.step l (.changes p t) = (l, if Si51.there l p = false then Si51.ok (-2) else if Si51.wordsOk t = false then Si51.ok (-1) else
    if (Si51.daysOf l).any (long1 l p t) = true ∨ long1 l p t 0 = true then Si51.ok (-5) else
    if (Si51.daysOf l).any (circ1 l p t) = true ∨ circ1 l p t 0 = true then Si51.ok (-7) else Si51.listed (Si51.changes l p t)) := by
  have e1 : (fun x => match Si51.longOf l x (Si51.longs l x) p t with
    | some n => decide (Si51.LONG < n)
    | none => false) = long1 l p t := funext fun x => long1_eq l p t x
  have e2 : (fun x => (Si51.longOf l x (Si51.longs l x) p t).isNone) = circ1 l p t := funext fun x => circ1_eq l p t x
  rw [← e1, ← e2]
  rfl
end
end Lw

end

section
set_option linter.all false
namespace Lw
open Si51 (Word Part Def Law)
section
variable {l : Law} {day : Nat}
/-! ### the days on which something turns, 0 among them -/
def turnD (l : Law) : List Nat := if (Si51.daysOf l).contains 0 then Si51.daysOf l else 0 :: Si51.daysOf l
theorem mem_turnD {x : Nat} : x ∈ turnD l ↔ x = 0 ∨ x ∈ Si51.daysOf l := by
  unfold turnD
  split
  · rename_i h
    have h : 0 ∈ Si51.daysOf l := by simpa using h
    exact ⟨.inr, fun z => z.elim (fun e => e ▸ h) id⟩
  · rw [List.mem_cons]
theorem turnD_rise : (turnD l).Pairwise (· < ·) := by
  unfold turnD
  split
  · exact daysOf_rise
  · rename_i h
    refine List.pairwise_cons.mpr ⟨fun b hb => ?_, daysOf_rise⟩
    have : b ≠ 0 := fun z => h (by rw [← z]; simpa using hb)
    omega
theorem turnD_zero : (turnD l)[0]? = some 0 := by
  have h0 : (0 : Nat) ∈ turnD l := mem_turnD.mpr (.inl rfl)
  have hr := turnD_rise (l := l)
  generalize turnD l = ds at h0 hr
  cases ds with
  | nil => cases h0
  | cons a ds =>
    rcases List.mem_cons.mp h0 with e | e
    · rw [← e]; rfl
    · have := (List.pairwise_cons.mp hr).1 0 e
      omega
theorem rise_get {ds : List Nat} (h : ds.Pairwise (· < ·)) {i j a b : Nat} (hi : ds[i]? = some a) (hj : ds[j]? = some b) : i < j ↔ a < b := by
  obtain ⟨h1, e1⟩ := List.getElem?_eq_some_iff.mp hi
  obtain ⟨h2, e2⟩ := List.getElem?_eq_some_iff.mp hj
  have up : ∀ i j (h1 : i < ds.length) (h2 : j < ds.length), i < j → ds[i] < ds[j] := fun i j h1 h2 hl => List.pairwise_iff_getElem.mp h i j h1 h2 hl
  constructor
  · intro hl
    have := up i j h1 h2 hl
    omega
  · intro hl
    by_cases q : i < j
    · exact q
    · by_cases e : i = j
      · subst e
        omega
      · have := up j i h2 h1 (by omega)
        omega
theorem mem_ix {ds : List Nat} {x : Nat} (h : x ∈ ds) : ∃ i : Nat, ds[i]? = some x := by
  obtain ⟨i, hi, e⟩ := List.getElem_of_mem h
  exact ⟨i, by rw [List.getElem?_eq_getElem hi, e]⟩
/-- nothing turns between one of these days and the next -/
theorem turn_alike {i a b : Nat} (hi : (turnD l)[i]? = some a) (hj : (turnD l)[i + 1]? = some b) : Alike l a (b - 1) := by
  have hr := turnD_rise (l := l)
  have hab := (rise_get hr hi hj).mp (Nat.lt_succ_self i)
  refine alike_still (by omega) fun x hx h1 h2 => ?_
  obtain ⟨k, hk⟩ := mem_ix (mem_turnD.mpr (.inr hx))
  have q1 := (rise_get hr hi hk).mpr h1
  have q2 := (rise_get hr hk hj).mpr (by omega)
  omega
/-- the days on which the text changes, by the days one behind another -/
def chg (l : Law) (p : Nat) (t : List Word) (i : Nat) : Option Nat := match (turnD l)[i]?, (turnD l)[i + 1]? with
  | some a, some b => if Si51.spelled l b p t != Si51.spelled l a p t then some b else none
  | _, _ => none
theorem fm_rise (f : Nat → Option Nat) (hf : ∀ i j a b, i < j → f i = some a → f j = some b → a < b) (n : Nat) : ((List.range n).filterMap f).Pairwise (· < ·) := by
  rw [List.pairwise_filterMap]
  exact List.pairwise_lt_range.imp fun {i j} hij a ha b hb => hf i j a b hij ha hb
theorem chg_some {p : Nat} {t : List Word} {i b : Nat} (h : chg l p t i = some b) : ∃ a, (turnD l)[i]? = some a ∧ (turnD l)[i + 1]? = some b ∧ Si51.spelled l b p t ≠ Si51.spelled l a p t := by
  unfold chg at h
  split at h
  · rename_i a b' h1 h2
    split at h
    · rename_i hne
      cases h
      exact ⟨a, h1, h2, by simpa using hne⟩
    · cases h
  · cases h
theorem changes_turn (p : Nat) (t : List Word) : Si51.changes l p t = (List.range ((turnD l).length - 1)).filterMap (chg l p t) := by
  refine rise_ext ?_ ?_ fun x => ?_
  · exact (daysOf_rise (l := l)).sublist List.filter_sublist
  · refine fm_rise _ (fun i j a b hij ha hb => ?_) _
    obtain ⟨a', _, h1, _⟩ := chg_some ha
    obtain ⟨b', _, h2, _⟩ := chg_some hb
    exact (rise_get turnD_rise h1 h2).mp (by omega)
  · unfold Si51.changes
    rw [List.mem_filter, List.mem_filterMap]
    constructor
    · rintro ⟨hx, hc⟩
      rw [Bool.and_eq_true] at hc
      have h0 : 0 < x := of_decide_eq_true hc.1
      obtain ⟨k, hk⟩ := mem_ix (mem_turnD.mpr (.inr hx))
      cases k with
      | zero =>
        rw [turnD_zero] at hk
        cases hk
        omega
      | succ i =>
        have hlt := (List.getElem?_eq_some_iff.mp hk).1
        have hi := List.getElem?_eq_getElem (show i < (turnD l).length by omega)
        refine ⟨i, List.mem_range.mpr (by omega), ?_⟩
        unfold chg
        rw [hi, hk]
        dsimp only
        rw [if_pos]
        have := (turn_alike hi hk).spelled p t
        rw [this, bne_comm]
        exact hc.2
    · rintro ⟨i, _, h⟩
      obtain ⟨a, h1, h2, hne⟩ := chg_some h
      have hab := (rise_get turnD_rise h1 h2).mp (Nat.lt_succ_self i)
      have hx : x ∈ Si51.daysOf l := by
        rcases mem_turnD.mp (List.mem_of_getElem? h2) with e | e
        · omega
        · exact e
      refine ⟨hx, ?_⟩
      rw [Bool.and_eq_true]
      refine ⟨decide_eq_true (by omega), ?_⟩
      rw [← (turn_alike h1 h2).spelled p t, bne_iff_ne]
      exact fun e => hne e.symm
theorem any_turn (f : Nat → Bool) : (turnD l).any f = true ↔ (Si51.daysOf l).any f = true ∨ f 0 = true := by
  rw [List.any_eq_true, List.any_eq_true]
  constructor
  · rintro ⟨x, hx, h⟩
    rcases mem_turnD.mp hx with e | e
    · exact .inr (e ▸ h)
    · exact .inl ⟨x, e, h⟩
  · rintro (⟨x, hx, h⟩ | h)
    · exact ⟨x, mem_turnD.mpr (.inr hx), h⟩
    · exact ⟨0, mem_turnD.mpr (.inl rfl), h⟩
theorem step_changes2 (l : Law) (p : Nat) (t : List Word) : Si51.step l (.changes p t) = (l, if Si51.there l p = false then Si51.ok (-2) else if Si51.wordsOk t = false then Si51.ok (-1) else
    if (turnD l).any (long1 l p t) = true then Si51.ok (-5) else if (turnD l).any (circ1 l p t) = true then Si51.ok (-7) else Si51.listed ((List.range ((turnD l).length - 1)).filterMap (chg l p t))) := by
  rw [step_changes]
  simp only [any_turn, changes_turn]
/-! ### what the texts call -/
def textsTo (l : Law) (day n : Nat) : List (Option Nat) := (List.range n).flatMap fun i => (((l.parts[i]?).map fun x => x.text).getD []).map fun w => Si51.means l i w day
theorem textsTo_succ {n : Nat} {x : Part} (h : l.parts[n]? = some x) : textsTo l day (n + 1) = textsTo l day n ++ x.text.map fun w => Si51.means l n w day := by
  unfold textsTo
  rw [List.range_succ, List.flatMap_append]
  simp [h]
theorem mem_textsTo {n d : Nat} : some d ∈ textsTo l day n ↔ ∃ (i w : Nat) (x : Part), i < n ∧ l.parts[i]? = some x ∧ w ∈ x.text ∧ Si51.means l i w day = some d := by
  unfold textsTo
  rw [List.mem_flatMap]
  constructor
  · rintro ⟨i, hi, h⟩
    obtain ⟨w, hw, e⟩ := List.mem_map.mp h
    cases hx : l.parts[i]? with
    | none => rw [hx] at hw; simp at hw
    | some x =>
      rw [hx] at hw
      exact ⟨i, w, x, List.mem_range.mp hi, hx, hw, e⟩
  · rintro ⟨i, w, x, hi, hx, hw, e⟩
    exact ⟨i, List.mem_range.mpr hi, List.mem_map.mpr ⟨w, by rw [hx]; exact hw, e⟩⟩
theorem textsTo_len (h : ∀ x ∈ l.parts, x.text.length ≤ 20) : ∀ n, n ≤ l.parts.length → (textsTo l day n).length ≤ 20 * n
  | 0, _ => by simp [textsTo]
  | n + 1, hn => by
    have hx := List.getElem?_eq_getElem (show n < l.parts.length by omega)
    rw [textsTo_succ hx, List.length_append, List.length_map]
    have := textsTo_len h n (by omega)
    have := h _ (List.mem_of_getElem? hx)
    omega
/-- those found so far, and those that wait -/
structure Found (l : Law) (day : Nat) (done : List Nat) (ws : List (Option Nat)) : Prop where
  nd : done.Nodup
  need : ∀ d ∈ done, Needed l day d
  wait : ∀ d, some d ∈ ws → Needed l day d
  text : ∀ d, some d ∈ textsTo l day l.parts.length → d ∈ done ∨ some d ∈ ws
  body : ∀ e ∈ done, ∀ w ∈ (Si51.def_ l e).body, ∀ d, Si51.means l (Si51.def_ l e).part w day = some d → d ∈ done ∨ some d ∈ ws
theorem Found.start : Found l day [] (textsTo l day l.parts.length) :=
  ⟨List.nodup_nil, fun d h => (by cases h), fun d h => (let ⟨i, w, x, _, hx, hw, e⟩ := mem_textsTo.mp h; .text hx hw e), fun d h => .inr h, fun e h => (by cases h)⟩
theorem Found.most {done : List Nat} {ws : List (Option Nat)} (h : Found l day done ws) : done.length ≤ l.defs.length := nodup_bound _ _ h.nd fun d hd => needed_lt (h.need d hd)
theorem Found.skip {done : List Nat} {ws : List (Option Nat)} {o : Option Nat} (h : Found l day done (ws ++ [o])) (ho : ∀ d, o = some d → d ∈ done) : Found l day done ws := by
  have cut : ∀ d, d ∈ done ∨ some d ∈ ws ++ [o] → d ∈ done ∨ some d ∈ ws := fun d z => by
    rcases z with z | z
    · exact .inl z
    · rcases List.mem_append.mp z with z | z
      · exact .inr z
      · exact .inl (ho d (by have : some d = o := (by simpa using z); exact this.symm))
  exact ⟨h.nd, h.need, fun d z => h.wait d (List.mem_append_left _ z), fun d z => cut d (h.text d z), fun e he w hw d hd => cut d (h.body e he w hw d hd)⟩
theorem Found.add {done : List Nat} {ws : List (Option Nat)} {n : Nat} (h : Found l day done (ws ++ [some n])) (hn : n ∉ done) : Found l day (done ++ [n]) (ws ++ (Si51.def_ l n).body.map fun w => Si51.means l (Si51.def_ l n).part w day) := by
  have hneed : Needed l day n := h.wait n (by simp)
  have more : ∀ d, d ∈ done ∨ some d ∈ ws ++ [some n] → d ∈ done ++ [n] ∨ some d ∈ ws ++ (Si51.def_ l n).body.map fun w => Si51.means l (Si51.def_ l n).part w day := fun d z => by
    rcases z with z | z
    · exact .inl (List.mem_append_left _ z)
    · rcases List.mem_append.mp z with z | z
      · exact .inr (List.mem_append_left _ z)
      · have : d = n := by simpa using z
        exact .inl (by simp [this])
  refine ⟨?_, fun d hd => ?_, fun d hd => ?_, fun d hd => more d (h.text d hd), fun e he w hw d hd => ?_⟩
  · refine List.nodup_append.mpr ⟨h.nd, by simp, fun a ha b hb e => ?_⟩
    have : b = n := by simpa using hb
    subst this e
    exact hn ha
  · rcases List.mem_append.mp hd with hd | hd
    · exact h.need d hd
    · have : d = n := by simpa using hd
      rw [this]
      exact hneed
  · rcases List.mem_append.mp hd with hd | hd
    · exact h.wait d (List.mem_append_left _ hd)
    · obtain ⟨w, hw, e⟩ := List.mem_map.mp hd
      exact .body hneed hw e
  · rcases List.mem_append.mp he with he | he
    · exact more d (h.body e he w hw d hd)
    · have : e = n := by simpa using he
      subst this
      exact .inr (List.mem_append_right _ (List.mem_map.mpr ⟨w, hw, hd⟩))
theorem Found.end_ {done : List Nat} (h : Found l day done []) (d : Nat) : d ∈ done ↔ d ∈ Si51.used l day := by
  rw [mem_used]
  refine ⟨h.need d, fun z => used_of (S := fun d => d ∈ done) (fun i w x d hx hw hm => ?_) (fun e w d he hw hm => ?_) z⟩
  · rcases h.text d (mem_textsTo.mpr ⟨i, w, x, (List.getElem?_eq_some_iff.mp hx).1, hx, hw, hm⟩) with q | q
    · exact q
    · cases q
  · rcases h.body e he w hw d hm with q | q
    · exact q
    · cases q
/-! ### hidden, differs -/
theorem own_some {d : Nat} (h : d ∈ force l day) : ∃ e, Si51.ownDef l (Si51.def_ l d).part (Si51.def_ l d).word day = some e := by
  rw [← best_own]
  unfold best
  have key : ∀ (ds : List Nat) (z : Option Nat), (z ≠ none ∨ d ∈ ds) → ds.foldl (nextBest l (Si51.def_ l d).part (Si51.def_ l d).word) z ≠ none := by
    intro ds
    induction ds with
    | nil =>
      intro z h
      rcases h with h | h
      · exact h
      · cases h
    | cons e ds ih =>
      intro z h
      rw [List.foldl_cons]
      refine ih _ ?_
      by_cases hd : d ∈ ds
      · exact .inr hd
      · left
        unfold nextBest
        rcases h with h | h
        · split
          · split
            · exact fun q => by cases q
            · split
              · exact fun q => by cases q
              · exact fun q => by cases q
          · exact h
        · have e1 : d = e := by
            rcases List.mem_cons.mp h with q | q
            · exact q
            · exact absurd q hd
          subst e1
          rw [if_pos ⟨rfl, rfl⟩]
          split
          · exact fun q => by cases q
          · split
            · exact fun q => by cases q
            · exact fun q => by cases q
  exact Option.ne_none_iff_exists'.mp (key _ _ (.inr h))
end
end Lw

end

section
set_option linter.all false
namespace Lw
/-! ### What is handed in, call by call -/
theorem rows_nil {k : Nat} {t u : List Int} (h : PyFlat.rows k t = some ([], u)) : k = 0 ∧ u = t := by
  cases k with
  | zero =>
    have h : some (([] : List (List Int)), t) = some ([], u) := h
    injection h with h
    injection h with _ h
    exact ⟨rfl, h.symm⟩
  | succ k =>
    unfold PyFlat.rows at h
    split at h
    · cases h
    · split at h
      · cases h
      · injection h with h
        injection h with h _
        cases h
theorem dec {L : List Int} {f : Nat} {cs : List (List (List Int))} (h : PyWide.calls f L = some cs) (ha : cs.all Si51Neutral.asked1 = true) :
    (L = [] ∧ cs = []) ∨ ∃ f' p n xs t cs', f = f' + 1 ∧ L = p :: n :: (xs ++ 0 :: t) ∧ 0 ≤ n ∧ xs.length = n.toNat ∧ cs = [p :: xs] :: cs' ∧ PyWide.calls f' t = some cs' ∧ (∃ q, Si51Neutral.callOf (p :: xs) = some q) ∧ cs'.all Si51Neutral.asked1 = true := by
  cases L with
  | nil =>
    left
    refine ⟨rfl, ?_⟩
    cases f <;> exact (Option.some.inj h).symm
  | cons p r =>
    right
    cases f with
    | zero => cases h
    | succ f =>
      unfold PyWide.calls at h
      split at h
      · cases h
      · rename_i c t hc
        split at h
        · cases h
        · rename_i cs' hcs
          have e := (Option.some.inj h).symm
          subst e
          rw [List.all_cons, Bool.and_eq_true] at ha
          obtain ⟨ha1, ha2⟩ := ha
          unfold Si51Neutral.asked1 at ha1
          rw [Bool.and_eq_true, Bool.and_eq_true] at ha1
          obtain ⟨h1, h2, h3⟩ := ha1
          cases r with
          | nil => cases hc
          | cons n r =>
            have hc : (match PyFlat.row (n :: r) with
              | none => none
              | some (_, []) => none
              | some (ns, k :: t) => if 0 ≤ k then (match PyFlat.rows k.toNat t with
                | none => none
                | some (xs, u) => some ((p :: ns) :: xs, u)) else none) = some (c, t) := hc
            split at hc
            · cases hc
            · cases hc
            · rename_i ns k t' hrow
              have hrow : (if 0 ≤ n ∧ n.toNat ≤ r.length then some (r.take n.toNat, r.drop n.toNat) else none) = some (ns, k :: t') := hrow
              split at hrow
              · rename_i hn
                have hrow := Option.some.inj hrow
                have e1 : r.take n.toNat = ns := congrArg Prod.fst hrow
                have e2 : r.drop n.toNat = k :: t' := congrArg Prod.snd hrow
                split at hc
                · rename_i hk
                  split at hc
                  · cases hc
                  · rename_i xs u hrows
                    have hc := Option.some.inj hc
                    have f1 : (p :: ns) :: xs = c := congrArg Prod.fst hc
                    have f2 : u = t := congrArg Prod.snd hc
                    subst f1 f2
                    have hx : xs = [] := by
                      have := eq_of_beq h1
                      simpa using this
                    subst hx
                    obtain ⟨g1, g2⟩ := rows_nil hrows
                    subst g2
                    have hk0 : k = 0 := by omega
                    subst hk0
                    refine ⟨f, p, n, ns, u, cs', rfl, ?_, hn.1, ?_, rfl, hcs, ?_, ha2⟩
                    · rw [← e1, ← e2, List.take_append_drop]
                    · rw [← e1, List.length_take]
                      omega
                    · have h3 : (Si51Neutral.callOf (p :: ns)).isSome = true := h3
                      exact Option.isSome_iff_exists.mp h3
                · cases hc
              · cases hrow
/-- a call by its numbers -/
def callN (l : List Nat) : Option Si51.Call := match l with
  | [0] => some .begins
  | 1 :: u :: t => if t.length ≤ 30 then some (.part u t) else none
  | 2 :: p :: w :: a :: b :: t => if t.length ≤ 30 then some (.define p w a b t) else none
  | [3, d, t] => some (.ends d t)
  | [4, a, b] => some (.rename a b)
  | [5, p, w, t] => some (.means p w t)
  | 6 :: p :: d :: t => if t.length ≤ 30 then some (.spell p d t) else none
  | [7, p, d] => some (.text p d)
  | [8, d] => some (.circles d)
  | [9, d] => some (.unused d)
  | [10, d] => some (.hidden d)
  | 11 :: p :: q :: d :: t => if t.length ≤ 30 then some (.differs p q d t) else none
  | 12 :: p :: t => if t.length ≤ 30 then some (.changes p t) else none
  | _ => none
theorem callOf_eq (l : List Int) : Si51Neutral.callOf l = callN (l.map Int.toNat) := rfl
theorem callN_far (n : Nat) (xs : List Nat) : callN ((n + 13) :: xs) = none := by
  rcases xs with _ | ⟨a, _ | ⟨b, _ | ⟨c, _ | ⟨d, _ | ⟨e, t⟩⟩⟩⟩⟩ <;> rfl
theorem callN_lt {j : Nat} {xs : List Nat} {q : Si51.Call} (h : callN (j :: xs) = some q) : j ≤ 12 := by
  refine Nat.le_of_not_lt fun z => ?_
  obtain ⟨n, rfl⟩ := Nat.exists_eq_add_of_le' z
  rw [callN_far] at h
  cases h
theorem toNat_cast : ∀ (zs : List Nat), (zs.map (fun n : Nat => (n : Int))).map Int.toNat = zs
  | [] => rfl
  | z :: zs => by
    rw [List.map_cons, List.map_cons, toNat_cast zs, Int.toNat_natCast]
theorem cast_toNat : ∀ (ns : List Int), (∀ x ∈ ns, 0 ≤ x) → (ns.map Int.toNat).map (fun n : Nat => (n : Int)) = ns
  | [], _ => rfl
  | n :: ns, h => by
    rw [List.map_cons, List.map_cons, cast_toNat ns fun x hx => h x (by simp [hx]), Int.toNat_of_nonneg (h n (by simp))]
/-- the same of natural numbers -/
theorem decN {zs : List Nat} {f : Nat} {cs : List (List (List Int))} (h : PyWide.calls f (zs.map fun n : Nat => (n : Int)) = some cs) (ha : cs.all Si51Neutral.asked1 = true) :
    (zs = [] ∧ cs = []) ∨ ∃ (f' j : Nat) (xs t : List Nat) (cs' : List (List (List Int))) (q : Si51.Call), zs = j :: xs.length :: (xs ++ 0 :: t) ∧ cs = [(j :: xs).map fun n : Nat => (n : Int)] :: cs' ∧ PyWide.calls f' (t.map fun n : Nat => (n : Int)) = some cs' ∧ callN (j :: xs) = some q ∧ cs'.all Si51Neutral.asked1 = true := by
  rcases dec h ha with ⟨e1, e2⟩ | ⟨f', p, n, xs, t, cs', _, e2, hn, hl, e3, e4, ⟨q, hq⟩, e5⟩
  · left
    refine ⟨?_, e2⟩
    cases zs with
    | nil => rfl
    | cons _ _ => cases e1
  · right
    have pos : ∀ x ∈ (zs.map fun n : Nat => (n : Int)), 0 ≤ x := fun x hx => by
      obtain ⟨m, _, rfl⟩ := List.mem_map.mp hx
      omega
    rw [e2] at pos
    have e6 := congrArg (List.map Int.toNat) e2
    rw [toNat_cast] at e6
    have hp : 0 ≤ p := pos p (by simp)
    have hx : ∀ x ∈ xs, 0 ≤ x := fun x hx => pos x (by simp [hx])
    have ht : ∀ x ∈ t, 0 ≤ x := fun x hx => pos x (by simp [hx])
    refine ⟨f', p.toNat, xs.map Int.toNat, t.map Int.toNat, cs', q, ?_, ?_, ?_, ?_, e5⟩
    · rw [e6]
      simp [hl]
    · rw [List.map_cons, cast_toNat xs hx, Int.toNat_of_nonneg hp]
      exact e3
    · rw [cast_toNat t ht]
      exact e4
    · rw [← hq, callOf_eq]
      rfl
theorem step_eq {s : Si51.Law} {j : Nat} {xs : List Nat} {q : Si51.Call} (h : callN (j :: xs) = some q) : Si51Neutral.step s [(j :: xs).map fun n : Nat => (n : Int)] = ((Si51.step s q).1, (Si51.step s q).2.v :: (Si51.step s q).2.l) := by
  have e : Si51Neutral.callOf ([(j :: xs).map fun n : Nat => (n : Int)].headD []) = some q := by
    rw [callOf_eq]
    show callN (((j :: xs).map fun n : Nat => (n : Int)).map Int.toNat) = some q
    rw [toNat_cast]
    exact h
  unfold Si51Neutral.step
  rw [e]
end Lw

end

section
set_option Elab.async false
set_option linter.all false
set_option maxRecDepth 100000
namespace L2
open PySem PySem.Spec PyProof.Rows
section
variable {X : Cx} {x : Str} {p pos : Pos} {e a b : Expr} {es : List Expr} {t : TA} {ta tb : TE} {k : Nat} {ps : List Str} {sp : Sp}
/-- a module's whole number -/
def GI (mg : Str → Option Value) (x : Str) (i : Int) : Prop := ∃ t, mg x = some (.int i t)
theorem pe_gint {i : Int} (hg : Gl X x) (h : GI X.mg x i) (hd : (x == ("__debug__" : Str)) = false := by decide) : PE X (.Name x pos) (tC (.int i)) := by
  obtain ⟨t, h⟩ := h
  exact pe_glob hg h ⟨t, rfl⟩ hd
/-- a module's object -/
theorem pe_gref {o : Addr} (hg : Gl X x) (h : X.mg x = some (.ref o)) (hd : (x == ("__debug__" : Str)) = false := by decide) : PE X (.Name x pos) (tC (.ref o)) := pe_glob hg h rfl hd
/-- a def of the text, by its name, with its promise -/
def FnD (P : Program) (w : World) (K : PySem.W.Frag) (mg : Str → Option Value) (base : Heap) (x : Str) (k : Nat) (ps : List Str) (sp : Sp) : Prop :=
  ∃ f fd, mg x = some (.ref f) ∧ PySem.W.keepIn K (.ref f) = true ∧ Binds K fd ps [] ∧ FnOk P w K mg base CX0 k f fd ps sp
def tFn (sp : Sp) (t : TA) : TE := fun σ H Q => t σ H fun vs H1 => sp vs H1 Q E0
theorem pe_fn (D : FnD X.prog X.w X.K X.mg X.base x k ps sp) (hr : Room k X.A) (hg : Gl X x) (ha : PA X (e :: es) t) (hdb : (x == ("__debug__" : Str)) = false := by decide)
    (he : starEach (e :: es) X.env = (false, eval e X.env) :: starEach es X.env := by rfl) (hpl : (backTo pos (starEach es X.env)).any (·.1) = false := by rfl) :
    PE X (.Call (.Name x p) (e :: es) [] pos) (tFn sp t) := by
  obtain ⟨f, fd, hm, hk, hb, F⟩ := D
  have h := pe_call (pos := pos) (p := p) (E := E0) F hr hg hm hk hb (dvs := []) .nil pass0 ha hdb he hpl
  intro pins s σ H Q I q
  refine h pins s σ H Q I ?_
  unfold tCall
  simp only [List.append_nil]
  exact q
/-- a class of the text, by its name, with its __init__'s promise -/
def MkD (P : Program) (w : World) (K : PySem.W.Frag) (mg : Str → Option Value) (base : Heap) (x : Str) (C : Addr) (k : Nat) (ps : List Str) (sp : Sp) : Prop :=
  ∃ f fd, mg x = some (.ref C) ∧ Mk K C f ∧ Binds K fd ps [] ∧ FnOk P w K mg base CX0 k f fd ps sp
def tMk (C : Addr) (sp : Sp) (t : TA) : TE := fun σ H Q => t σ H fun vs H1 => ∀ x dx, H1 x = none → H1 dx = none → dx ≠ x →
  sp (.ref x :: vs) (upd (upd H1 dx (.own x)) x (.ins C dx [])) (fun v H2 => v = .non ∧ Q (.ref x) H2) E0
theorem pe_mk {C : Addr} (D : MkD X.prog X.w X.K X.mg X.base x C k ps sp) (hr : Room (k + 1) X.A) (hg : Gl X x) (ha : PA X (e :: es) t) (hdb : (x == ("__debug__" : Str)) = false := by decide)
    (he : starEach (e :: es) X.env = (false, eval e X.env) :: starEach es X.env := by rfl) (hpl : (backTo pos (starEach es X.env)).any (·.1) = false := by rfl) :
    PE X (.Call (.Name x p) (e :: es) [] pos) (tMk C sp t) := by
  obtain ⟨f, fd, hm, M, hb, F⟩ := D
  have h := pe_make (pos := pos) (p := p) (E := E0) M F hr hg hm hb (dvs := []) .nil pass0 ha hdb he hpl
  intro pins s σ H Q I q
  refine h pins s σ H Q I ?_
  unfold tMake
  simp only [List.append_nil]
  exact q
theorem pe_mk0 {C : Addr} (D : MkD X.prog X.w X.K X.mg X.base x C k ps sp) (hr : Room (k + 1) X.A) (hg : Gl X x) (hdb : (x == ("__debug__" : Str)) = false := by decide) :
    PE X (.Call (.Name x p) [] [] pos) (tMk C sp tNil) := by
  obtain ⟨f, fd, hm, M, hb, F⟩ := D
  have h := pe_make0 (pos := pos) (p := p) (E := E0) M F hr hg hm hb (dvs := []) .nil pass0 hdb
  intro pins s σ H Q I q
  refine h pins s σ H Q I ?_
  unfold tMake
  simp only [List.append_nil]
  exact q
/-- in, not in, a list -/
theorem pc_inL (ha : PE X a ta) (hb : PE X b tb) : PC X .In a b (tOp (rIn X.K false) ta tb) := fun pins s σ H Q I h => binT ha hb I h fun v u s2 x y H2 I2 rx ry q => op_in_seq pins s2 σ H2 x y v u Q I2 rx ry q
/-- a def whose every argument is given: from its place in the text -/
theorem FnD.mk {P : Program} {w : World} {K : PySem.W.Frag} {mg : Str → Option Value} {base : Heap} {f : Addr} {fd : FuncData} {x qual : Str} {st : Stmt} (F : Fun K x qual st f fd) (hm : mg x = some (.ref f)) (hb : Binds K fd ps []) (G : FnOk P w K mg base CX0 k f fd ps sp) :
    FnD P w K mg base x k ps sp := ⟨f, fd, hm, F.kp, hb, G⟩
/-! the same within a comprehension's block, where K is to be named -/
section
variable {f : Str}
theorem pg_tupK (K : PySem.W.Frag) {es : List Expr} {k : Nat} {t : TGs} {n : Nat} (hc : X.calm = true) (h : PGs X es t) (hK : X.K = K := by rfl)
    (hn : (assignEach es X.env).length = n := by rfl) (hst : (assignEach es X.env).findIdx? (·.1) = none := by rfl) : PG X (.Tuple es k pos) (gTup K n t) := by
  subst hK
  exact pg_tup hc h hn hst
theorem pe_ixLK (K : PySem.W.Frag) (ha : PE X a ta) (hb : PE X b tb) (hs : PlainIx b) (hK : X.K = K := by rfl) : PE X (.Subscript a b pos) (tOp (rIxL K) ta tb) := by
  subst hK
  exact pe_ix ix_list ha hb hs
end
theorem at_nat {xs : List V} {j : Nat} {v : V} (h : xs[j]? = some v) : atI xs ((j : Nat) : Int) = some v := atI_nat h
end
theorem cx_K {CX : CXT} {P : Program} {w : World} {K : PySem.W.Frag} {mg : Str → Option Value} {base : Heap} {N : List Str} {x : Str} {sc : Scope} {f : Addr} {cdv : Value} {A : Around} {outer : List Env} {s : Shared} {H : Hp} {E : XK} : (Cx.nox (cxOf CX P w K mg base N x sc f cdv A outer s H E)).K = K := rfl
end L2

namespace Lw
open PySem PySem.Spec PyProof.Rows L2
open Si51 (Law)
/-! ### Data -/
def nV (n : Nat) : V := .int (n : Int)
def nsV (l : List Nat) : List V := l.map nV
def upV : Option Nat → V
  | none => .non
  | some u => nV u
def pF (u : Option Nat) (w : Addr) : List (Str × V) := [("above", upV u), ("words", .ref w)]
def dF (d : Si51.Def) (b : Addr) : List (Str × V) := [("part", nV d.part), ("word", nV d.word), ("since", nV d.from_), ("until", nV (d.to_.getD 0)), ("body", .ref b)]
def lF (pa da : Addr) : List (Str × V) := [("parts", .ref pa), ("definitions", .ref da)]
theorem pF_above {u w} : (pF u w).lookup ("above" : Str) = some (upV u) := rfl
theorem pF_words {u w} : (pF u w).lookup ("words" : Str) = some (.ref w) := rfl
theorem dF_part {d b} : (dF d b).lookup ("part" : Str) = some (nV d.part) := rfl
theorem dF_word {d b} : (dF d b).lookup ("word" : Str) = some (nV d.word) := rfl
theorem dF_since {d b} : (dF d b).lookup ("since" : Str) = some (nV d.from_) := rfl
theorem dF_until {d b} : (dF d b).lookup ("until" : Str) = some (nV (d.to_.getD 0)) := rfl
theorem dF_body {d b} : (dF d b).lookup ("body" : Str) = some (.ref b) := rfl
theorem lF_parts {a b} : (lF a b).lookup ("parts" : Str) = some (.ref a) := rfl
theorem lF_defs {a b} : (lF a b).lookup ("definitions" : Str) = some (.ref b) := rfl
end Lw
namespace Lw
open PySem
@[elab_as_elim] theorem us_1 {p : List Value → Prop} (h : ∀ a, p [a]) (us : List Value) (hl : us.length = 1) : p us := by
  obtain ⟨a, rfl⟩ := List.length_eq_one_iff.mp hl
  exact h a
theorem us_s {p : List Value → Prop} {n : Nat} (h : ∀ a us, us.length = n → p (a :: us)) (us : List Value) (hl : us.length = n + 1) : p us := by
  cases us with
  | nil => cases hl
  | cons a us => exact h a us (Nat.succ.inj hl)
@[elab_as_elim] theorem us_2 {p : List Value → Prop} (h : ∀ a b, p [a, b]) (us : List Value) (hl : us.length = 2) : p us := us_s (fun a us hl => us_1 (p := fun us => p (a :: us)) (h a) us hl) us hl
@[elab_as_elim] theorem us_3 {p : List Value → Prop} (h : ∀ a b c, p [a, b, c]) (us : List Value) (hl : us.length = 3) : p us := us_s (fun a us hl => us_2 (p := fun us => p (a :: us)) (h a) us hl) us hl
@[elab_as_elim] theorem us_4 {p : List Value → Prop} (h : ∀ a b c d, p [a, b, c, d]) (us : List Value) (hl : us.length = 4) : p us := us_s (fun a us hl => us_3 (p := fun us => p (a :: us)) (h a) us hl) us hl
@[elab_as_elim] theorem us_5 {p : List Value → Prop} (h : ∀ a b c d e, p [a, b, c, d, e]) (us : List Value) (hl : us.length = 5) : p us := us_s (fun a us hl => us_4 (p := fun us => p (a :: us)) (h a) us hl) us hl
@[elab_as_elim] theorem us_6 {p : List Value → Prop} (h : ∀ a b c d e f, p [a, b, c, d, e, f]) (us : List Value) (hl : us.length = 6) : p us := us_s (fun a us hl => us_5 (p := fun us => p (a :: us)) (h a) us hl) us hl
end Lw
/-! ### places in the text -/
namespace Lw
open PySem
def kidE (e : Expr) (i : Nat) : Expr := match e with
  | .BoolOp _ vs _ => vs.getD i e
  | .BinOp a _ b _ => [a, b].getD i e
  | .UnaryOp _ a _ => a
  | .IfExp a b c _ => [a, b, c].getD i e
  | .Compare a _ bs _ => (a :: bs).getD i e
  | .Call f as _ _ => (f :: as).getD i e
  | .Attribute a _ _ => a
  | .Subscript a b _ => [a, b].getD i e
  | .List es _ => es.getD i e
  | .Tuple es _ _ => es.getD i e
  | .ListComp a gs _ _ => match gs with
    | [g] => (a :: g.iter :: g.ifs).getD i e
    | _ => e
  | _ => e
def noE : Expr := .Name "" ⟨0, 0, 0, 0⟩
def noS : Stmt := .Pass ⟨0, 0, 0, 0⟩
def subE (s : Stmt) (i : Nat) : Expr := match s with
  | .Return v _ => v.getD noE
  | .Assign ts v _ => (ts ++ [v]).getD i noE
  | .If t _ _ _ => t
  | .While t _ _ _ => t
  | .For t a _ _ _ => [t, a].getD i noE
  | .Expr v _ => v
  | _ => noE
def subS (s : Stmt) (i : Nat) : Stmt := match s with
  | .If _ a b _ => if i < 1000 then a.getD i noS else b.getD (i - 1000) noS
  | .While _ a _ _ => a.getD i noS
  | .For _ _ a _ _ => a.getD i noS
  | _ => noS
def stAt (s : Stmt) (i : Nat) : Stmt := (L2.defBody s).getD i noS
def lcS (e : Expr) : Scope := match e with
  | .ListComp _ _ sc _ => sc
  | _ => { kind := .function, names := [], isGenerator := false, isCoroutine := false }
theorem dlt (a b : Nat) : decide ((a : Int) < (b : Int)) = decide (a < b) := by rw [decide_eq_decide]; omega
theorem deq (a b : Nat) : decide ((a : Int) = (b : Int)) = decide (a = b) := by rw [decide_eq_decide]; omega
end Lw

end

section
set_option Elab.async false
set_option linter.all false
set_option maxRecDepth 100000
namespace Lw
open PySem
/-! ### the places of a set's table -/
def Rise (xs : Array Nat) : Prop := xs.toList.Pairwise (· < ·)
theorem Rise.le {xs : Array Nat} (h : Rise xs) {i k x y : Nat} (hi : xs[i]? = some x) (hk : xs[k]? = some y) (hl : i < k) : x < y := by
  rw [← Array.getElem?_toList] at hi hk
  obtain ⟨h1, e1⟩ := List.getElem?_eq_some_iff.mp hi
  obtain ⟨h2, e2⟩ := List.getElem?_eq_some_iff.mp hk
  have := List.pairwise_iff_getElem.mp h i k h1 h2 hl
  rw [e1, e2] at this
  exact this
structure CutAt (xs : Array Nat) (j r : Nat) : Prop where
  le : r ≤ xs.size
  low : ∀ i x, i < r → xs[i]? = some x → x < j
  high : ∀ i x, r ≤ i → xs[i]? = some x → j ≤ x
theorem gap0 {f lo hi : Nat} (h1 : hi - lo ≤ 0) (h2 : lo ≤ hi) : lo = hi := Nat.le_antisymm h2 (Nat.le_of_sub_eq_zero (Nat.le_zero.mp h1))
theorem gap1 {f lo hi m : Nat} (h1 : hi - lo ≤ f + 1) (h2 : lo ≤ m) (h3 : m < hi) : hi - (m + 1) ≤ f := by omega
theorem gap2 {f lo hi m : Nat} (h1 : hi - lo ≤ f + 1) (h2 : lo ≤ m) (h3 : m < hi) : m - lo ≤ f := by omega
theorem mid_le {lo hi : Nat} (h : lo < hi) : lo ≤ (lo + hi) / 2 ∧ (lo + hi) / 2 < hi := by omega
theorem below_go {xs : Array Nat} (hr : Rise xs) (j : Nat) : ∀ (f lo hi : Nat), hi - lo ≤ f → lo ≤ hi → hi ≤ xs.size → (∀ i x, i < lo → xs[i]? = some x → x < j) → (∀ i x, hi ≤ i → xs[i]? = some x → j ≤ x) → CutAt xs j (SetTable.below.go xs j f lo hi)
  | 0, lo, hi, h1, h2, h3, h4, h5 => by
    have e : lo = hi := gap0 (f := 0) h1 h2
    subst e
    exact ⟨h3, h4, h5⟩
  | f + 1, lo, hi, h1, h2, h3, h4, h5 => by
    unfold SetTable.below.go
    by_cases hl : lo < hi
    · rw [if_pos hl]
      dsimp only
      obtain ⟨m1, m2⟩ := mid_le hl
      generalize (lo + hi) / 2 = m at m1 m2 ⊢
      have hm : m < xs.size := Nat.lt_of_lt_of_le m2 h3
      have hg : xs[m]? = some xs[m] := Array.getElem?_eq_getElem hm
      have hd : xs.getD m j = xs[m] := by simp [Array.getD, hm]
      rw [hd]
      by_cases hc : xs[m] < j
      · rw [if_pos hc]
        refine below_go hr j f _ hi (gap1 h1 m1 m2) m2 h3 (fun i x hi' hx => ?_) h5
        by_cases e : i = m
        · subst e
          rw [hg] at hx
          cases hx
          exact hc
        · exact Nat.lt_trans (hr.le hx hg (Nat.lt_of_le_of_ne (Nat.le_of_lt_succ hi') e)) hc
      · rw [if_neg hc]
        refine below_go hr j f lo _ (gap2 h1 m1 m2) m1 (Nat.le_of_lt hm) h4 (fun i x hi' hx => ?_)
        by_cases e : i = m
        · subst e
          rw [hg] at hx
          cases hx
          exact Nat.le_of_not_lt hc
        · exact Nat.le_trans (Nat.le_of_not_lt hc) (Nat.le_of_lt (hr.le hg hx (Nat.lt_of_le_of_ne hi' (Ne.symm e))))
    · rw [if_neg hl]
      have e : lo = hi := Nat.le_antisymm h2 (Nat.le_of_not_lt hl)
      subst e
      exact ⟨h3, h4, h5⟩
theorem below_cut {xs : Array Nat} (hr : Rise xs) (j : Nat) : CutAt xs j (SetTable.below xs j) := by
  unfold SetTable.below
  exact below_go hr j xs.size 0 xs.size (Nat.sub_le ..) (Nat.zero_le _) (Nat.le_refl _) (fun i x h => absurd h (Nat.not_lt_zero _)) (fun i x h hx => absurd (Array.getElem?_eq_some_iff.mp hx).1 (Nat.not_lt_of_le h))
theorem below_zero {xs : Array Nat} (hr : Rise xs) : SetTable.below xs 0 = 0 := by
  have c := below_cut hr 0
  by_cases h : SetTable.below xs 0 = 0
  · exact h
  · have hs : 0 < xs.size := by have := c.le; omega
    have := c.low 0 _ (by omega) (Array.getElem?_eq_getElem hs)
    omega
theorem below_next {xs : Array Nat} (hr : Rise xs) {k x : Nat} (hx : xs[k]? = some x) : SetTable.below xs (x + 1) = k + 1 := by
  have c := below_cut hr (x + 1)
  by_cases h1 : SetTable.below xs (x + 1) ≤ k
  · have := c.high k x h1 hx
    omega
  · by_cases h2 : k + 1 < SetTable.below xs (x + 1)
    · have hs : k + 1 < xs.size := by have := c.le; omega
      have hg := Array.getElem?_eq_getElem hs
      have := c.low (k + 1) _ h2 hg
      have := hr.le hx hg (by omega)
      omega
    · omega
theorem rise_insert {xs : Array Nat} (hr : Rise xs) {j : Nat} (hn : xs[SetTable.below xs j]? ≠ some j) : Rise (SetTable.insertAt xs (SetTable.below xs j) j) := by
  have c := below_cut hr j
  unfold Rise
  rw [SetTable.toList_insertAt]
  have hd : ∀ b ∈ xs.toList.drop (SetTable.below xs j), j < b := fun b hb => by
    obtain ⟨i, hi, e⟩ := List.getElem_of_mem hb
    rw [List.getElem_drop] at e
    rw [List.length_drop] at hi
    have hg : xs[SetTable.below xs j + i]? = some b := by
      rw [← Array.getElem?_toList, List.getElem?_eq_getElem (Nat.add_lt_of_lt_sub' hi), e]
    have h1 := c.high _ _ (Nat.le_add_right _ _) hg
    by_cases hb' : b = j
    · subst hb'
      by_cases hi0 : i = 0
      · subst hi0
        exact absurd hg hn
      · have hs : SetTable.below xs b < xs.size := Nat.lt_of_le_of_lt (Nat.le_add_right _ _) (Array.getElem?_eq_some_iff.mp hg).1
        have hg0 := Array.getElem?_eq_getElem hs
        have h2 := c.high _ _ (Nat.le_refl _) hg0
        have h3 := hr.le hg0 hg (Nat.lt_add_of_pos_right (Nat.pos_of_ne_zero hi0))
        exact absurd h3 (Nat.not_lt_of_le h2)
    · exact Nat.lt_of_le_of_ne h1 (Ne.symm hb')
  have ht : ∀ b ∈ xs.toList.take (SetTable.below xs j), b < j := fun b hb => by
    obtain ⟨i, hi, e⟩ := List.getElem_of_mem hb
    rw [List.getElem_take] at e
    rw [List.length_take] at hi
    have hi := Nat.lt_min.mp hi
    exact c.low i b hi.1 (by rw [← Array.getElem?_toList, List.getElem?_eq_getElem hi.2, e])
  refine List.pairwise_append.mpr ⟨hr.sublist (List.take_sublist ..), List.pairwise_cons.mpr ⟨hd, hr.sublist (List.drop_sublist ..)⟩, fun a ha b hb => ?_⟩
  have h1 := ht a ha
  rcases List.mem_cons.mp hb with rfl | hb
  · exact h1
  · exact Nat.lt_trans h1 (hd b hb)
theorem rise_range (n : Nat) : Rise (Array.range n) := by
  unfold Rise
  rw [Array.toList_range]
  exact List.pairwise_lt_range
/-! ### a free place is no taken one -/
theorem adv_dummy (t : SetTable) (p : SetTable.Probe) : (t.advance p).dummy = p.dummy := by
  unfold SetTable.advance
  split <;> rfl
theorem probe_free {t : SetTable} {ha : Nat → Int} {h : Int} : ∀ (f : Nat) (p : SetTable.Probe) (j : Nat) (dm : Option Nat), SetTable.probe.go t ha h f p = some (.empty j dm) → (∀ d, p.dummy = some d → t.slot d = .dummy) → t.slot j = .empty ∧ ∀ d, dm = some d → t.slot d = .dummy
  | 0, p, j, dm, e, _ => by
    unfold SetTable.probe.go at e
    cases e
  | f + 1, p, j, dm, e, hd => by
    unfold SetTable.probe.go at e
    split at e
    · rename_i hs
      cases e
      exact ⟨hs, hd⟩
    · rename_i hs
      refine probe_free f _ j dm e fun d q => ?_
      rw [adv_dummy] at q
      cases q
      exact hs
    · split at e
      · cases e
      · refine probe_free f _ j dm e fun d q => ?_
        rw [adv_dummy] at q
        exact hd d q
theorem slot_not {t : SetTable} {j : Nat} (h : ∀ i, t.slot j ≠ .live i) : t.place[SetTable.below t.place j]? ≠ some j := fun e => by
  refine h (SetTable.below t.place j) ?_
  unfold SetTable.slot
  dsimp only
  rw [if_pos (by rw [e]; exact beq_self_eq_true _)]
theorem free_not {t : SetTable} {h : Int} {j : Nat} {b : Bool} (e : t.freeSlot h = some (j, b)) : t.place[SetTable.below t.place j]? ≠ some j := by
  unfold SetTable.freeSlot at e
  split at e
  · rename_i j' dm hp
    unfold SetTable.probe at hp
    have h1 := probe_free _ _ _ _ hp fun d q => by cases q
    cases dm with
    | none =>
      cases e
      exact slot_not fun i q => by rw [Option.getD_none, h1.1] at q; cases q
    | some d =>
      cases e
      exact slot_not fun i q => by have := h1.2 _ rfl; rw [Option.getD_some, this] at q; cases q
  · cases e
/-! ### laid anew -/
theorem laid_rise {mask finger moves : Nat} {led plain : Bool} {hs : Array Int} {t : SetTable} {o : Array Nat} (h : SetTable.laid mask finger moves led plain hs = some (t, o)) : t.led = led ∧ Rise t.place := by
  unfold SetTable.laid at h
  cases hw : SetTable.layClean mask hs with
  | none => rw [hw] at h; cases h
  | some owner =>
    rw [hw] at h
    cases h
    refine ⟨rfl, ?_⟩
    show ((((List.range (mask + 1)).filterMap fun j => (owner.getD j none).map (j, ·)).map (·.1)).toArray).toList.Pairwise (· < ·)
    rw [List.toList_toArray, List.pairwise_map, List.pairwise_filterMap]
    refine List.pairwise_lt_range.imp fun {a b} hab x hx y hy => ?_
    obtain ⟨_, _, rfl⟩ := Option.map_eq_some_iff.mp hx
    obtain ⟨_, _, rfl⟩ := Option.map_eq_some_iff.mp hy
    exact hab
/-- a table that can be walked -/
def TabOk (b : Bool) (t : SetTable) : Prop := t.led = !b ∧ Rise t.place
theorem TabOk.standIn {b : Bool} {t : SetTable} (h : TabOk b t) (n : Nat) : TabOk b (t.standIn n) := ⟨h.1, rise_range n⟩
theorem TabOk.orStandIn {b : Bool} {t : SetTable} (h : TabOk b t) (n : Nat) : TabOk b (t.orStandIn n) := by
  unfold SetTable.orStandIn
  split
  · exact h
  · exact h.standIn n
theorem TabOk.layNew {b : Bool} {t : SetTable} (h : TabOk b t) (es : Array (Int × Value)) (k : Int) (x : Value) : TabOk b (layNew t es k x).2.1 := by
  unfold PySem.layNew
  split
  · rename_i slot wd hf
    show TabOk b ((t.put slot).1.orStandIn _)
    exact TabOk.orStandIn (t := (t.put slot).1) ⟨h.1, rise_insert h.2 (free_not hf)⟩ _
  · exact h.standIn _
theorem TabOk.relayAll {b : Bool} {t : SetTable} (h : TabOk b t) (es : Array (Int × Value)) (wanted : Nat) : TabOk b (relayAll t es wanted).2.1 := by
  unfold PySem.relayAll
  split
  · rename_i t' order hl
    dsimp only
    split
    · have := laid_rise hl
      exact ⟨this.1.trans h.1, this.2⟩
    · exact h.standIn _
  · exact h.standIn _
theorem TabOk.plainOff {b : Bool} {t : SetTable} (h : TabOk b t) : TabOk b { t with plain := false } := h
end Lw

end

section
set_option Elab.async false
set_option linter.all false
set_option maxRecDepth 100000
namespace Lw
open PySem
def keyOf : Value → Int
  | .int n _ => n
  | _ => 0
def byTxt (w : World) : Bool := w.params.followText "set-order"
def keysOf (es : Array (Int × Value)) : List Int := es.toList.map fun e => keyOf e.2
structure SetCore (prog : Program) (w : World) (es : Array (Int × Value)) (ns : List Int) : Prop where
  el : ElemsOf (intKind prog w) es.toList
  nd : (keysOf es).Nodup
  mem : ∀ k, k ∈ keysOf es ↔ k ∈ ns
  le : es.size ≤ ns.length
/-- an object that is the set of these ints -/
def SetIs (prog : Program) (w : World) (o : Obj) (ns : List Int) : Prop :=
  o.ExactSet ∧ ∃ es ep t, o.data = .set es ep t ∧ SetCore prog w es ns ∧ t.fits es.size = true ∧ TabOk (byTxt w) t
section
variable {prog : Program} {w : World} {es es' : Array (Int × Value)} {ns ns' : List Int} {o : Obj}
theorem SetCore.congr (h : SetCore prog w es ns) (e : ∀ k, k ∈ ns ↔ k ∈ ns') (hl : ns.length ≤ ns'.length) : SetCore prog w es ns' :=
  ⟨h.el, h.nd, fun k => (h.mem k).trans (e k), Nat.le_trans h.le hl⟩
theorem SetIs.congr (h : SetIs prog w o ns) (e : ∀ k, k ∈ ns ↔ k ∈ ns') (hl : ns.length ≤ ns'.length) : SetIs prog w o ns' :=
  let ⟨a, es, ep, t, b, c, d⟩ := h; ⟨a, es, ep, t, b, c.congr e hl, d⟩
theorem SetCore.perm (h : SetCore prog w es ns) (p : es'.toList.Perm es.toList) : SetCore prog w es' ns := by
  have pk : (keysOf es').Perm (keysOf es) := p.map _
  refine ⟨fun e he => h.el e (p.mem_iff.mp he), pk.nodup_iff.mpr h.nd, fun k => pk.mem_iff.trans (h.mem k), ?_⟩
  have := p.length_eq
  rw [Array.length_toList, Array.length_toList] at this
  rw [this]
  exact h.le
theorem SetCore.more (h : SetCore prog w es ns) {v : Int} {t : Tok} (hv : v ∉ keysOf es) (p : es'.toList.Perm (es.push ((intKind prog w).hash v, .int v t)).toList) : SetCore prog w es' (v :: ns) := by
  refine SetCore.perm (es := es.push ((intKind prog w).hash v, .int v t)) ?_ p
  have ek : keysOf (es.push ((intKind prog w).hash v, .int v t)) = keysOf es ++ [v] := by
    unfold keysOf
    rw [Array.toList_push, List.map_append]
    rfl
  refine ⟨?_, ?_, fun k => ?_, ?_⟩
  · rw [Array.toList_push]
    exact ElemsOf.push h.el (intKind_is prog w v t) rfl
  · rw [ek]
    refine List.nodup_append.mpr ⟨h.nd, by simp, fun a ha b hb e => ?_⟩
    have : b = v := by simpa using hb
    subst this e
    exact hv ha
  · rw [ek, List.mem_append, h.mem, List.mem_cons, List.mem_cons]
    simp
    exact Or.comm
  · rw [Array.size_push, List.length_cons]
    exact Nat.succ_le_succ h.le
theorem SetCore.isKey (h : SetCore prog w es ns) {e : Int × Value} (he : e ∈ es.toList) (k : Int) : (intKind prog w).is k e.2 = true ↔ keyOf e.2 = k := by
  obtain ⟨⟨k', hk', _⟩, _⟩ := h.el e he
  obtain ⟨t, ht⟩ := Value.isInt_shape hk'
  constructor
  · intro hk
    obtain ⟨tN, ht2⟩ := Value.isInt_shape hk
    rw [ht2]
    rfl
  · intro hk
    rw [ht] at hk ⊢
    have : k' = k := hk
    subst this
    exact intKind_is prog w _ _
end
section
variable {prog : Program} {w : World} {A : Around} {E : Value → Shared → Prop} {s : Shared} {a : Addr} {o : Obj} {ns : List Int}
theorem SetIs.same {h : Heap} (hex : o.ExactSet) {es : Array (Int × Value)} {ep : Nat} {t : SetTable} (hd : o.data = .set es ep t) (ho : h.get? a = some o) {es' : Array (Int × Value)} {t' : SetTable} (hc : SetCore prog w es' ns) (hf : t'.fits es'.size = true) (ht : TabOk (byTxt w) t') :
    ∃ o', (h.update a (Obj.putSet es' t')).get? a = some o' ∧ o'.data = .set es' (ep + 1) t' ∧ o'.ExactSet ∧ SetIs prog w o' ns := by
  have got : (h.update a (Obj.putSet es' t')).get? a = some { o with data := .set es' (ep + 1) t' } := by
    have q := Heap.get?_update_self (Obj.putSet es' t') ho (by rw [putSet_of es' t' hd]; rfl)
    rw [putSet_of es' t' hd] at q
    exact q
  exact ⟨_, got, rfl, hex, hex, es', ep + 1, t', rfl, hc, hf, ht⟩
/-- the end of an addition: stored, and laid anew where it is too full -/
theorem tail_is {g : Bool → Sem Unit} (got : ∀ (b : Bool) (s1 : Shared) (Q' : Unit → Shared → Prop), Q' () s1 → wpAny (model prog w) A (g b) Q' E s1)
    {es : Array (Int × Value)} {ep : Nat} {t : SetTable} (ho : s.heap.get? a = some o) (hex : o.ExactSet) (hd : o.data = .set es ep t)
    {esN : Array (Int × Value)} {tN : SetTable} (hc : SetCore prog w esN ns) (hz : esN.size ≤ sizeLine) (hf : tN.fits esN.size = true) (ht : TabOk (byTxt w) tN) {wd : Bool} {R : Option Bool → Shared → Prop}
    (h : ∀ h' o', Heap.SameBut a s.heap h' → h'.get? a = some o' → SetIs prog w o' ns → R (some true) { s with heap := h' }) :
    wpAny (model prog w) A (do
        storeSet a esN tN
        if (!wd && tN.tooFull) = true then do
            g (relayAll tN esN (SetTable.grown esN.size)).2.2
            storeSet a (relayAll tN esN (SetTable.grown esN.size)).1 (relayAll tN esN (SetTable.grown esN.size)).2.1
            pure (some true)
        else pure (some true)) R E s := by -- laid anew or not
  obtain ⟨o1, ho1, hd1, hex1, hs1⟩ := SetIs.same hex hd ho hc hf ht
  refine wpAny_bind (wpAny_storeSet_of ho hd ?_ hz)
  have sb := Heap.SameBut.update s.heap a (Obj.putSet esN tN)
  split
  · have hp := relayAll_perm tN esN (SetTable.grown esN.size)
    have fitR := relayAll_fits tN esN (SetTable.grown esN.size)
    have tabR := ht.relayAll esN (SetTable.grown esN.size)
    generalize relayAll tN esN (SetTable.grown esN.size) = rl at hp fitR tabR ⊢
    obtain ⟨es2, t3, gave⟩ := rl
    dsimp only at hp fitR tabR ⊢
    refine wpAny_bind (got _ _ _ ?_)
    have hc2 := hc.perm hp
    have hz2 : es2.size ≤ sizeLine := by
      have := hp.length_eq
      rw [Array.length_toList, Array.length_toList] at this
      omega
    obtain ⟨o2, ho2, hd2, hex2, hs2⟩ := SetIs.same hex1 hd1 ho1 hc2 fitR tabR
    refine wpAny_bind (wpAny_storeSet_of ho1 hd1 ?_ hz2)
    exact wpAny_pure (h _ o2 (sb.trans (Heap.SameBut.update _ a _)) ho2 hs2)
  · exact wpAny_pure (h _ o1 sb ho1 hs1)
theorem setAdd_is {v : Int} {tk : Tok} {Q : Bool → Shared → Prop} (ho : s.heap.get? a = some o) (hS : SetIs prog w o ns) (hb : ns.length + 1 < scanBound)
    (h : ∀ h' o' r, Heap.SameBut a s.heap h' → h'.get? a = some o' → SetIs prog w o' (v :: ns) → Q r { s with heap := h', toks := s.toks + 1 }) : wpAny (model prog w) A (setAdd a (.int v tk)) Q E s := by
  obtain ⟨hex, es, ep, t, hd, hc, hf, ht⟩ := hS
  have hkey := intKind_is prog w v tk
  have hle := hc.le
  have scn : (Value.int v tk).scannable = true := rfl
  unfold setAdd
  refine wpAny_holding (wpAny_bind ((intKind prog w).pyHash (k := v) hkey ?_))
  unfold setAddHashed; unfold setAddHashedIn
  refine wpAny_holding (wpAny_bind (wpAny_setState_of (s := { s with toks := s.toks + 1 }) ho hd hf ?_))
  dsimp only
  rw [byScan_of (knd := intKind prog w) scn (by omega) hc.el]
  simp only [↓reduceIte]
  unfold setAddByScan
  refine wpAny_bind (wpAny_bind (wpAny_rule (wpAny_bind (wpAny_setScan_of (knd := intKind prog w) (s := { s with toks := s.toks + 1 }) hkey ho hd hf hc.el ?_))))
  cases seek : List.findIdx? (fun e => (intKind prog w).is v e.2) es.toList with
  | some j =>
    dsimp only
    obtain ⟨jl, jis, _⟩ := List.findIdx?_eq_some_iff_getElem.mp seek
    have hv : v ∈ ns := (hc.mem v).mp (List.mem_map.mpr ⟨es.toList[j], List.getElem_mem jl, (hc.isKey (List.getElem_mem jl) v).mp jis⟩)
    refine wpAny_pure (wpAny_pure (?_ : Q false _))
    refine h s.heap o false (Heap.SameBut.refl a s.heap) ho ⟨hex, es, ep, t, hd, hc.congr (fun k => ?_) (by simp), hf, ht⟩
    rw [List.mem_cons]
    exact ⟨.inr, fun z => z.elim (fun e => e ▸ hv) id⟩
  | none =>
    dsimp only
    have hv : v ∉ keysOf es := fun z => by
      obtain ⟨e, he, q⟩ := List.mem_map.mp z
      have := List.findIdx?_eq_none_iff.mp seek e he
      rw [(hc.isKey he v).mpr q] at this
      cases this
    have gave1 : ∀ (b : Bool) (s1 : Shared) (Q' : Unit → Shared → Prop), Q' () s1 → wpAny (model prog w) A (match b with | true => rule "set.scan.the-table-gave-way" | false => pure ()) Q' E s1 :=
      fun b s1 Q' hq => by cases b <;> first | exact wpAny_pure hq | exact wpAny_rule hq
    have hperm := layNew_perm t es ((intKind prog w).hash v) (.int v tk)
    have fit1 := layNew_fits t es ((intKind prog w).hash v) (.int v tk)
    have htab := ht.layNew es ((intKind prog w).hash v) (.int v tk)
    generalize layNew t es ((intKind prog w).hash v) (.int v tk) = ly at hperm fit1 htab ⊢
    obtain ⟨esN, t1, wd, gave⟩ := ly
    dsimp only at hperm fit1 htab ⊢
    have hc1 := hc.more hv hperm
    have hz1 : esN.size ≤ sizeLine := by
      have := hc1.le
      rw [List.length_cons] at this
      exact fits_of_scanBound (by omega)
    refine wpAny_bind (gave1 _ _ _ ?_)
    split
    · refine wpAny_bind ?_
      rw [hashByValue_scannable 8 scn]
      refine wpAny_pure ?_
      refine tail_is (s := { s with toks := s.toks + 1 }) (ns := v :: ns) gave1 ho hex hd hc1 hz1 ?_ ?_ fun h' o' h1 h2 h3 => wpAny_pure (h h' o' true h1 h2 h3)
      · split
        · exact fit1
        · exact SetTable.fits_plain_off fit1
      · split
        · exact htab
        · exact htab.plainOff
    · refine wpAny_bind (wpAny_pure ?_); simp only [↓reduceIte]
      exact tail_is (s := { s with toks := s.toks + 1 }) (ns := v :: ns) gave1 ho hex hd hc1 hz1 fit1 htab fun h' o' h1 h2 h3 => wpAny_pure (h h' o' true h1 h2 h3)
end
end Lw

end

section
set_option Elab.async false
set_option linter.all false
set_option maxRecDepth 100000
namespace Lw
open PySem PyProof.Rows
section
variable {prog : Program} {w : World} {A : Around} {I : Addr} {fp wr : List Addr} {n : Nat}
variable {R : Result → Shared → Prop} {G : Array GenState → Array GenState → Prop} {P : Nat → Value → Prop} {St : Nat → Shared → Prop}
theorem mem_range_succ (val : Nat → Int) (i : Nat) (k : Int) : k ∈ val i :: (List.range i).map val ↔ k ∈ (List.range (i + 1)).map val := by
  rw [List.range_succ, List.map_append, List.mem_append, List.mem_cons]
  simp
  exact Or.comm
theorem update_is (W : WalksS prog w A.in1 I fp wr G n P St) (S : Addr) (nfp : S ∉ fp) (val : Nat → Int) (isval : ∀ i v, P i v → ∃ t, v = .int (val i) t) (hb : n + 1 < scanBound) :
    ∀ (k i : Nat) (s : Shared) (o : Obj), n - i = k → i ≤ n → St i s → s.heap.get? S = some o → SetIs prog w o ((List.range i).map val) →
      (∀ s' o', Moved (S :: wr) G s s' → s'.heap.get? S = some o' → SetIs prog w o' ((List.range n).map val) → R (.ok (.ret .none)) s') →
      codeAny (model prog w) A (.builtin "set.update.loop" ⟨[.ref S, .ref I], []⟩) R s := by
  have nwr : S ∉ wr := fun h => nfp (W.sub _ h)
  have sub : ∀ b ∈ wr, b ∈ S :: wr := fun b hb => List.mem_cons_of_mem _ hb
  intro k
  induction k with
  | zero =>
    intro i s o hk hi st0 hg hS hR
    obtain rfl : i = n := by omega
    refine codeAny_builtin F.entry_set_update_loop ?_; rw [Around.under_plainId F.plain_set_update_loop _]; show wpAny _ A.in1 (pyNext (.ref I) >>= _) _ _ s
    refine wpAny_bind (W.done s _ _ st0 fun s' mv => ?_)
    exact wpAny_pure (hR s' o (mv.mono sub) (mv.heap S _ nwr hg) hS)
  | succ k ih =>
    intro i s o hk hi st0 hg hS hR
    have ilt : i < n := by omega
    refine codeAny_builtin F.entry_set_update_loop ?_; rw [Around.under_plainId F.plain_set_update_loop _]; show wpAny _ A.in1 (pyNext (.ref I) >>= _) _ _ s
    refine wpAny_bind (W.item i s _ _ ilt st0 fun v s' isP hst' mv => ?_)
    obtain ⟨t, rfl⟩ := isval i v isP
    have hg' := mv.heap S _ nwr hg
    show wpAny _ A.in1 (holding [Value.int (val i) t] (setAdd S (.int (val i) t)) >>= _) _ _ s'
    refine wpAny_bind (wpAny_holding (setAdd_is hg' hS (by rw [List.length_map, List.length_range]; omega) fun h' o' r sb ho' hS' => ?_))
    have hS2 : SetIs prog w o' ((List.range (i + 1)).map val) := hS'.congr (mem_range_succ val i) (by simp)
    refine wpAny_pure ⟨plainId_quiet F.plain_set_update_loop _, ih (i + 1) _ o' (by omega) ilt (W.frame _ s' _ _ hst' (Nat.le_succ _) fun b hb q e => ?_) ho' hS2 fun s'' o'' hm'' ho'' hS'' => ?_⟩
    · rw [sb.2 b (fun z : b = S => nfp (by rw [← z]; exact hb))]
      exact e
    · refine hR s'' o'' (Moved.trans W.gtrans ((mv.mono sub).then_heap (Nat.le_succ _) fun b q hb e => ?_) hm'') ho'' hS''
      rw [sb.2 b (fun z : b = S => hb (by rw [z]; exact List.mem_cons_self))]
      exact e
end
/-- a set as it is made -/
def freshSet (w : World) : Obj := { cls := .type "set", dict := none, data := .set #[] 0 (.fresh 0 0 (!byTxt w)) }
theorem freshSet_is (prog : Program) (w : World) : SetIs prog w (freshSet w) [] :=
  ⟨⟨rfl, rfl, rfl⟩, #[], 0, _, rfl, ⟨fun e he => by simp at he, by simp [keysOf], fun k => by simp [keysOf], Nat.le_refl _⟩, by rfl, rfl, List.Pairwise.nil⟩
section
variable {prog : Program} {w : World} {A : Around} {E : Value → Shared → Prop} {s : Shared}
theorem code_newSet (x : Value) {Q1 : Value → Shared → Prop} (h : Q1 (.ref s.heap.objs.size) { s with heap := s.heap.push (freshSet w) }) :
    codeAny (model prog w) A (.call (.builtin "set.__new__") ⟨[.type "set", x], []⟩) (wants Q1 E) s := by
  refine codeAny_of_tree (show wpAny _ A.in1 (do checkBuiltinCall "set.__new__" ⟨[.type "set", x], []⟩; again (.builtin "set.__new__" ⟨[.type "set", x], []⟩)) _ _ s from ?_)
  refine wpAny_bind (wpAny_of_eq (F.newCall_set_1 x) (wpAny_pure ⟨plainId_quiet F.plain_set_new _, codeAny_builtin F.entry_set_new ?_⟩))
  rw [Around.under_plainId F.plain_set_new _]; unfold Builtin.«set.__new__» Builtin.Frozenset.newClass
  have hsub := sub_set_self
  obtain ⟨hp, g, d, tk, os⟩ := s; dsimp only
  wp_walk
  refine wpAny_askSetting (wpAny_pure ?_); dsimp only; simp only [newObj]
  exact wpAny_bind (wpAny_alloc (wpAny_pure (wpAny_pure h)))
set_option maxHeartbeats 3000000 in
theorem call_set_is {l : Addr} {items : Array Value} {ns : List Int} {Q : Value → Shared → Prop} (hh : A.handled = none) (hl : s.heap.IsList l items) (hi : IntsAre items.toList ns) (hb : items.size + 1 < scanBound)
    (h : ∀ (h' : Heap) (tk : Nat) (o : Obj), h'.get? s.heap.objs.size = some o → SetIs prog w o ns → (∀ b u, s.heap.get? b = some u → h'.get? b = some u) → Q (.ref s.heap.objs.size) { s with heap := h', toks := tk }) :
    wpAny (model prog w) A (call (.type "set") [.ref l]) Q E s := by
  obtain ⟨c, tail, mro⟩ := F.called_set.mro
  have hmade := F.called_set.made; have hsub := F.called_set.sub
  refine wpAny_call (codeAny_of_tree (show wpAny _ _ (callAny (.type "set") _) _ _ _ from ?_))
  refine wpAny_pure ⟨Code.quiet_builtin _ (by decide +kernel), codeAny_builtin F.entry_type_call ?_⟩; rw [Around.under_plain (weight_type_call_type "set" [.ref l] []) rfl]
  have h1 := F.called_set.notType; have h2 := F.called_set.canCreate; have hct := F.typeCall_set_1 (.ref l)
  repeat any_goals (first | assumption | wp_step)
  refine codeAny_mono (code_newSet (.ref l) (E := E) (Q1 := fun obj s1 => obj = .ref s.heap.objs.size ∧ s1 = { s with heap := s.heap.push (freshSet w) }) ⟨rfl, rfl⟩) fun r s1 hr => ?_
  cases r with
  | error e => exact hr
  | ok fl =>
    cases fl with
    | ret obj =>
      obtain ⟨rfl, rfl⟩ := hr
      have hS : (s.heap.push (freshSet w)).get? s.heap.objs.size = some (freshSet w) := Heap.get?_push_size _ rfl
      have hT : Shared.TypeIs { s with heap := s.heap.push (freshSet w) } (.ref s.heap.objs.size) "set" := ⟨_, hS, rfl⟩
      have hli := F.called_set.init.lookup; have hbi := F.called_set.init.bind (.ref s.heap.objs.size)
      repeat any_goals (first | assumption | wp_step)
      refine codeAny_mono (codeAny_call_builtin (R := wants (fun r s2 => r = .none ∧ ∃ h' tk o, s2 = { s with heap := h', toks := tk } ∧ h'.get? s.heap.objs.size = some o ∧ SetIs prog w o ns ∧ ∀ b u, s.heap.get? b = some u → h'.get? b = some u) E) F.called_set.init.plain F.entry_set_init (check_set_init_1 hT ?_)) fun r2 s2 hr2 => ?_
      · obtain ⟨ol, lo, lc, ln, ld⟩ := hl
        obtain ⟨oc, od, odata, osl⟩ := ol
        simp only at lc ld
        subst lc ld
        have hol' : (s.heap.push (freshSet w)).get? l = some { cls := .type "list", dict := od, data := .seq items ln, slots := osl } := Heap.get?_push_of_some _ lo
        have hsls := F.sub_list_set; have hslf := F.sub_list_frozenset
        have ntd : (Value.type "list" == Value.type "dict") = false := by decide
        have hl1 : (s.heap.push (freshSet w)).IsList l items := ⟨_, hol', rfl, ln, rfl⟩
        have hS' : (s.heap.push (freshSet w)).get? s.heap.objs.size = some { cls := .type "set", dict := none, data := .set #[] 0 (.fresh 0 0 (!byTxt w)) } := hS
        unfold Builtin.«set.__init__» noKeywords Builtin.Frozenset.updateFrom; generalize hPI : pyIter = PI
        wp_walk
        subst hPI
        refine wpAny_pyIter_list hl1 (wpAny_bind (wpAny_runValue ?_))
        have llt : l < s.heap.objs.size := Heap.lt_size lo
        have hnd3 : A.in1.in1.in1.handled = none := by simp [hh]
        have hsz : (s.heap.push (freshSet w)).objs.size = s.heap.objs.size + 1 := Heap.size_push ..
        have hneI : l ≠ (s.heap.push (freshSet w)).objs.size := by
          rw [hsz]
          exact Nat.ne_of_lt (Nat.lt_succ_of_lt llt)
        have nfp : s.heap.objs.size ∉ [(s.heap.push (freshSet w)).objs.size, l] := by
          rw [hsz]
          simp only [List.mem_cons, List.not_mem_nil, or_false, not_or]
          exact ⟨Nat.ne_of_lt (Nat.lt_succ_self _), Nat.ne_of_gt llt⟩
        have isval : ∀ (i : Nat) (v : Value), items[i]? = some v → ∃ t, v = .int (ns.getD i 0) t := fun i v hv => IntsAre.int_at hi i v (by rw [Array.getElem?_toList]; exact hv)
        refine update_is ((Walks.list hnd3 _ l hneI items).toS) s.heap.objs.size nfp (fun i => ns.getD i 0) isval hb (items.size - 0) 0 _ (freshSet w) (by omega) (Nat.zero_le _) ⟨⟨_, Heap.get?_push_size _ rfl, rfl, rfl⟩, (hl1.push _)⟩ (Heap.get?_push_of_some _ hS) (freshSet_is prog w) ?_
        intro s' o' mv ho' hS2
        obtain ⟨h', g', d', tk', oz'⟩ := s'
        obtain rfl : g' = s.gens := mv.gens
        obtain rfl : d' = s.drawn := mv.drawn
        obtain rfl : oz' = s.os := mv.os
        have hlen : items.size = ns.length := by rw [← IntsAre.length hi, Array.length_toList]
        have ens : (List.range items.size).map (fun i => ns.getD i 0) = ns := by
          refine List.ext_getElem? fun i => ?_
          rw [List.getElem?_map, hlen]
          by_cases hi' : i < ns.length
          · rw [List.getElem?_range hi', List.getElem?_eq_getElem hi']
            simp [List.getElem?_eq_getElem hi']
          · rw [List.getElem?_eq_none (by simpa using hi'), List.getElem?_eq_none (by omega)]
            rfl
        rw [ens] at hS2
        show wpAny _ _ _ _ _ _
        refine wpAny_pure (show wpAny _ _ (ret Value.none) _ _ _ from wpAny_pure ⟨rfl, h', tk', o', rfl, ho', hS2, fun b u e => ?_⟩)
        have hb1 := Heap.lt_size e
        refine mv.heap b u ?_ (Heap.get?_push_of_some _ (Heap.get?_push_of_some _ e))
        rw [hsz]
        simp only [List.mem_cons, List.not_mem_nil, or_false, not_or]
        exact ⟨Nat.ne_of_lt hb1, Nat.ne_of_lt (Nat.lt_succ_of_lt hb1)⟩
      · cases r2 with
        | error e => exact hr2
        | ok fl2 =>
          cases fl2 with
          | ret r =>
            obtain ⟨rfl, h', tk, o, rfl, ho, hS3, hk⟩ := hr2
            repeat any_goals (first | assumption | wp_step)
            exact h _ _ o ho hS3 hk
          | _ => exact hr2.elim
    | _ => exact hr.elim
end
end Lw

end

section
set_option Elab.async false
set_option linter.all false
set_option maxRecDepth 100000
namespace Lw
open PySem
theorem si_next : Slot "set_iterator" "__next__" "set_iterator.__next__" :=
  .of (owner := "set_iterator") (n := "__next__") (by rw [typeLookup_type, builtinLookup_eq_fast]; kernel_rfl) (by decide +kernel) (by decide +kernel) (by decide +kernel) (by first | exact .inl (by decide +kernel) | exact .inr (by decide +kernel)) (by rw [isSubtype_type]; kernel_rfl)
theorem si_next_entry : entryFor table "set_iterator.__next__" = some Builtin.«set_iterator.__next__» := entryFor_of_tree (by kernel_rfl)
theorem si_owner : Manifest.owners.lookup (String.ofList ['r', 'o', 't', 'a', 'r', 'e', 't', 'i', '_', 't', 'e', 's'].reverse) = some Manifest.sig_set_iterator := by kernel_rfl
theorem si_next_args (a : Value) : argsOk "set_iterator.__next__" ⟨[a], []⟩ := by
  unfold argsOk; rw [signature?_of (id := "set_iterator.__next__") (n := ['_', '_', 't', 'x', 'e', 'n', '_', '_']) (o := ['r', 'o', 't', 'a', 'r', 'e', 't', 'i', '_', 't', 'e', 's']) (by kernel_rfl) si_owner]; kernel_rfl
theorem si_iter : Slot "set_iterator" "__iter__" "set_iterator.__iter__" :=
  .of (owner := "set_iterator") (n := "__iter__") (by rw [typeLookup_type, builtinLookup_eq_fast]; kernel_rfl) (by decide +kernel) (by decide +kernel) (by decide +kernel) (by first | exact .inl (by decide +kernel) | exact .inr (by decide +kernel)) (by rw [isSubtype_type]; kernel_rfl)
theorem si_iter_entry : entryFor table "set_iterator.__iter__" = some Builtin.«dict_keyiterator.__iter__» := entryFor_alias (id' := "dict_keyiterator.__iter__") (by kernel_rfl) rfl (by decide +kernel) (by kernel_rfl)
theorem si_iter_args (a : Value) : argsOk "set_iterator.__iter__" ⟨[a], []⟩ := by
  unfold argsOk; rw [signature?_of (id := "set_iterator.__iter__") (n := ['_', '_', 'r', 'e', 't', 'i', '_', '_']) (o := ['r', 'o', 't', 'a', 'r', 'e', 't', 'i', '_', 't', 'e', 's']) (by kernel_rfl) si_owner]; kernel_rfl
theorem set_iter_entry : entryFor table "set.__iter__" = some Builtin.«frozenset.__iter__» := entryFor_alias (id' := "frozenset.__iter__") (by kernel_rfl) rfl (by decide +kernel) (by kernel_rfl)
/-- a set's iterator -/
def ItAt (h : Heap) (I : Addr) (first : Value) (i : Nat) (S : Addr) (n ep : Nat) : Prop := ∃ o, h.get? I = some o ∧ o.cls = .type "set_iterator" ∧ o.data = .fields #[first, .int i 0, .ref S, .int n 0, .int ep 0]
theorem ItAt.ty {s : Shared} {I S : Addr} {first : Value} {i n ep : Nat} (h : ItAt s.heap I first i S n ep) : s.TypeIs (.ref I) "set_iterator" := let ⟨o, ho, hc, _⟩ := h; ⟨o, ho, hc⟩
theorem ItAt.keep {h h' : Heap} {I S : Addr} {first : Value} {i n ep : Nat} (x : ItAt h I first i S n ep) (e : ∀ o, h.get? I = some o → h'.get? I = some o) : ItAt h' I first i S n ep := let ⟨o, ho, r⟩ := x; ⟨o, e _ ho, r⟩
section
variable {prog : Program} {w : World} {A : Around} {E : Value → Shared → Prop} {s : Shared} {I S : Addr} {i n ep : Nat} {first : Value} {o : Obj} {es : Array (Int × Value)} {t : SetTable}
theorem iter_self {Q : Value → Shared → Prop} (hit : ItAt s.heap I first i S n ep) (h : Q (.ref I) s) : wpAny (model prog w) A (pyIter (.ref I)) Q E s := by
  refine wpAny_pyIter_slot hit.ty si_iter (wpAny_call_entry si_iter hit.ty si_iter_entry (show wpAny _ _ (ret (.ref I)) _ _ s from ?_) (si_iter_args _))
  exact wpAny_pure ⟨_, rfl, "set_iterator", _, hit.ty, si_next.lookup, h⟩
/-- the next one, where the place is a number -/
theorem next_item {slot nx : Nat} {x : Value} {Q : Option Value → Shared → Prop} (hit : ItAt s.heap I (.int slot 0) i S n ep) (ho : s.heap.get? S = some o) (hd : o.data = .set es ep t) (hf : t.fits es.size = true) (hn : es.size = n)
    (hx : ∀ (A : Around) (Q' : Option (Value × Nat) → Shared → Prop) (E' : Value → Shared → Prop), Q' (some (x, nx)) s → wpAny (model prog w) A (setNext S slot i ep) Q' E' s)
    (hQ : ∀ h', ItAt h' I (.int nx 0) (i + 1) S n ep → Heap.SameBut I s.heap h' → Q (some x) { s with heap := h' }) : wpAny (model prog w) A (pyNext (.ref I)) Q E s := by
  obtain ⟨oi, hoi, hci, hdi⟩ := id hit
  unfold pyNext
  refine wpAny_bind (wpAny_attempt (wpAny_callSpecial?_slot (name := Str.ofString "__next__") hit.ty si_next (wpAny_call_entry si_next hit.ty si_next_entry ?_ (si_next_args _))))
  unfold Builtin.«set_iterator.__next__»
  refine wpAny_bind (m := slotArgs "__next__" 0 _) (wpAny_pure ?_)
  refine wpAny_bind (wpAny_fieldsOf hoi hdi ?_)
  dsimp only
  refine wpAny_bind (wpAny_setEntries_of ho hd hf ?_)
  rw [if_neg (by simp [hn])]
  simp only [Int.toNat_natCast]
  refine wpAny_bind (hx _ _ _ ?_)
  dsimp only
  refine wpAny_bind (wpAny_setField hoi hdi (by simp) ?_)
  have h1 := Heap.get?_update_self (Obj.mapFields (·.setIfInBounds 0 (rawInt nx))) hoi (Obj.isFreed_of_fields (Obj.data_mapFields hdi _))
  refine wpAny_bind (wpAny_setField h1 (Obj.data_mapFields hdi _) (by simp) ?_)
  have h2 := Heap.get?_update_self (Obj.mapFields (·.setIfInBounds 1 (rawInt ((i : Int) + 1)))) h1 (Obj.isFreed_of_fields (Obj.data_mapFields (Obj.data_mapFields hdi _) _))
  refine wpAny_pure ⟨_, rfl, wpAny_pure (hQ _ ⟨_, h2, ?_, ?_⟩ ((Heap.SameBut.update ..).trans (Heap.SameBut.update ..)))⟩
  · rw [Obj.cls_mapFields, Obj.cls_mapFields]
    exact hci
  · rw [Obj.data_mapFields (Obj.data_mapFields hdi _)]
    simp [rawInt]
theorem next_end {slot : Nat} {Q : Option Value → Shared → Prop} (hh : A.handled = none) (hit : ItAt s.heap I (.int slot 0) i S n ep) (ho : s.heap.get? S = some o) (hd : o.data = .set es ep t) (hf : t.fits es.size = true) (hn : es.size = n)
    (hx : ∀ (A : Around) (Q' : Option (Value × Nat) → Shared → Prop) (E' : Value → Shared → Prop), Q' none s → wpAny (model prog w) A (setNext S slot i ep) Q' E' s)
    (hQ : ∀ h', Heap.ExtBut I s.heap h' → Q none { s with heap := h' }) : wpAny (model prog w) A (pyNext (.ref I)) Q E s := by
  obtain ⟨oi, hoi, hci, hdi⟩ := id hit
  unfold pyNext
  refine wpAny_bind (wpAny_attempt (wpAny_callSpecial?_slot (name := Str.ofString "__next__") hit.ty si_next (wpAny_call_entry si_next hit.ty si_next_entry ?_ (si_next_args _))))
  unfold Builtin.«set_iterator.__next__»
  refine wpAny_bind (m := slotArgs "__next__" 0 _) (wpAny_pure ?_)
  refine wpAny_bind (wpAny_fieldsOf hoi hdi ?_)
  dsimp only
  refine wpAny_bind (wpAny_setEntries_of ho hd hf ?_)
  rw [if_neg (by simp [hn])]
  simp only [Int.toNat_natCast]
  refine wpAny_bind (hx _ _ _ ?_)
  dsimp only
  refine wpAny_bind (wpAny_setField hoi hdi (by simp) ?_)
  refine wpAny_bind ?_
  simp only [newExc, newTuple]
  refine wpAny_bind (wpAny_newObj_type ?_ (by size_fits))
  refine wpAny_bind (m := firstArgMember _ _) (wpAny_of_eq (a := Value.none) (by first | rfl | (simp only [firstArgMember]; rfl)) (wpAny_newObj_type ?_ (by size_fits)))
  refine wpAny_raiseNew_none (by simpa using hh) ?_
  refine wpAny_bind (wpAny_isInstance (T := "StopIteration") (b := true) ⟨_, Heap.get?_push_size _ rfl, rfl⟩ isSubtype_stop (wpAny_pure (hQ _ ?_)))
  exact ((Heap.SameBut.update ..).extBut.push _).push _
end
end Lw

end

section
set_option Elab.async false
set_option linter.all false
set_option maxRecDepth 100000
namespace Lw
open PySem
theorem erase_perm {α : Type} : ∀ {l : List α} {i : Nat} (h : i < l.length), (l[i] :: l.eraseIdx i).Perm l
  | [], _, h => by simp at h
  | x :: l, 0, _ => .rfl
  | x :: l, i + 1, h => by
    have h' : i < l.length := by simpa using h
    show (l[i] :: x :: l.eraseIdx i).Perm (x :: l)
    exact (List.Perm.swap ..).trans ((erase_perm h').cons x)
theorem pick_go {α : Type} (next : Nat → Nat) : ∀ (f k : Nat) (left : List α) (out : Array α), left.length = f → (pickOrder.go next f k left out).toList.Perm (out.toList ++ left)
  | 0, k, left, out, h => by
    have : left = [] := List.length_eq_zero_iff.mp h
    subst this
    unfold pickOrder.go
    simp
  | f + 1, k, left, out, h => by
    unfold pickOrder.go
    have hl : next k % left.length < left.length := Nat.mod_lt _ (by omega)
    rw [List.getElem?_eq_getElem hl]
    dsimp only
    refine (pick_go next f (k + 1) _ _ (by rw [List.length_eraseIdx_of_lt hl]; omega)).trans ?_
    rw [Array.toList_push, List.append_assoc]
    exact List.Perm.append_left _ (erase_perm hl)
theorem pick_perm {α : Type} (next : Nat → Nat) (xs : Array α) : (pickOrder next xs).toList.Perm xs.toList := by
  have := pick_go next xs.size 0 xs.toList #[] (Array.length_toList ..)
  simpa [pickOrder] using this
section
variable {prog : Program} {w : World} {A : Around} {E : Value → Shared → Prop} {s : Shared} {I S : Addr} {i n ep : Nat} {first : Value} {o : Obj} {es : Array (Int × Value)} {t : SetTable}
theorem choose_any {M : Model} {src : Source} {n : Nat} {Q : Nat → Shared → Prop} (hn : n ≠ 0) (h : ∀ k d', k < n → Q k { s with drawn := d' }) : wpAny M A (choose src n) Q E s :=
  fun _ _ _ => ⟨hn, h _ _ (Nat.mod_lt _ (Nat.pos_of_ne_zero hn))⟩
theorem draw_any {M : Model} {α : Type} : ∀ (f : Nat) (xs : List α) (s : Shared) (Q : List α → Shared → Prop), xs.length = f → (∀ ys d', ys.Perm xs → Q ys { s with drawn := d' }) → wpAny M A (drawOrder f xs) Q E s
  | 0, xs, s, Q, h, k => by
    have : xs = [] := List.length_eq_zero_iff.mp h
    subst this
    exact wpAny_pure (k [] s.drawn .rfl)
  | f + 1, [], s, Q, h, k => by simp at h
  | f + 1, x :: xs, s, Q, h, k => by
    show wpAny M A (choose .order (x :: xs).length >>= _) Q E s
    refine wpAny_bind (choose_any (by simp) fun j d' hj => ?_)
    rw [List.getElem?_eq_getElem hj]
    dsimp only
    refine wpAny_bind (draw_any f _ _ _ (by rw [List.length_eraseIdx_of_lt hj, h]; rfl) fun ys d2 hp => wpAny_pure (k _ _ ?_))
    exact (List.Perm.cons _ hp).trans (erase_perm hj)
theorem next_txt {slot : Nat} {Q : Option (Value × Nat) → Shared → Prop} (hb : byTxt w = true) (ho : s.heap.get? S = some o) (hd : o.data = .set es ep t) (hf : t.fits es.size = true)
    (h : Q (((pickOrder (w.params.setOrder S ep) es)[i]?).map fun e => (e.2, slot)) s) : wpAny (model prog w) A (setNext S slot i ep) Q E s := by
  unfold setNext
  refine wpAny_bind (wpAny_setState_of ho hd hf ?_)
  dsimp only
  unfold setsByText
  refine wpAny_bind (wpAny_bind (wpAny_askSetting (wpAny_pure ?_)))
  refine wpAny_ite_split (fun _ => ?_) (fun hn => absurd hb hn)
  refine wpAny_ite_split (fun hne => absurd hne (by simp)) (fun _ => ?_)
  refine wpAny_bind ?_
  unfold setWalk
  refine wpAny_bind (wpAny_setState_of ho hd hf ?_)
  dsimp only
  unfold setsByText
  refine wpAny_bind (wpAny_bind (wpAny_askSetting (wpAny_pure ?_)))
  refine wpAny_ite_split (fun _ => ?_) (fun hn => absurd hb hn)
  exact wpAny_bind (wpAny_askSetting (wpAny_pure (wpAny_pure h)))
theorem next_led {slot : Nat} {Q : Option (Value × Nat) → Shared → Prop} (hb : byTxt w = false) (hdr : (!t.plain && decide (es.size > 1)) = false) (hl : t.led = true) (ho : s.heap.get? S = some o) (hd : o.data = .set es ep t) (hf : t.fits es.size = true)
    (h : Q (match es[SetTable.below t.place slot]?, t.place[SetTable.below t.place slot]? with
      | some (_, x), some j => some (x, j + 1)
      | _, _ => none) s) : wpAny (model prog w) A (setNext S slot i ep) Q E s := by
  unfold setNext
  refine wpAny_bind (wpAny_setState_of ho hd hf ?_)
  dsimp only
  unfold setsByText
  refine wpAny_bind (wpAny_bind (wpAny_askSetting (wpAny_pure ?_)))
  refine wpAny_ite_split (fun hy => ?_) (fun _ => ?_)
  · have hy : byTxt w = true := hy
    rw [hb] at hy
    cases hy
  refine wpAny_ite_split (fun hy => ?_) (fun _ => ?_)
  · have hy : (!t.plain && decide (es.size > 1)) = true := hy
    rw [hdr] at hy
    cases hy
  refine wpAny_bind (show wpAny _ _ (if (!t.led && !es.isEmpty) = true then unsupported "set:maker-not-led" else pure ()) _ _ _ from ?_)
  rw [hl]
  refine wpAny_ite_split (fun hy => absurd hy (by simp)) (fun _ => wpAny_pure ?_)
  exact wpAny_pure h
/-- the next one, where the places were drawn -/
theorem drawn_item {T : Addr} {pl : List Nat} {p : Nat} {x : Int × Value} {ot : Obj} {Q : Option Value → Shared → Prop} (hit : ItAt s.heap I (.ref T) i S n ep) (ho : s.heap.get? S = some o) (hd : o.data = .set es ep t) (hf : t.fits es.size = true) (hn : es.size = n)
    (hT : s.heap.get? T = some ot) (hdT : ot.data = .seq ((pl.map fun (j : Nat) => rawInt j).toArray) 0) (hp : pl[i]? = some p) (hx : es[p]? = some x)
    (hQ : ∀ h', ItAt h' I (.ref T) (i + 1) S n ep → Heap.SameBut I s.heap h' → Q (some x.2) { s with heap := h' }) : wpAny (model prog w) A (pyNext (.ref I)) Q E s := by
  obtain ⟨oi, hoi, hci, hdi⟩ := id hit
  unfold pyNext
  refine wpAny_bind (wpAny_attempt (wpAny_callSpecial?_slot (name := Str.ofString "__next__") hit.ty si_next (wpAny_call_entry si_next hit.ty si_next_entry ?_ (si_next_args _))))
  unfold Builtin.«set_iterator.__next__»
  refine wpAny_bind (m := slotArgs "__next__" 0 _) (wpAny_pure ?_)
  refine wpAny_bind (wpAny_fieldsOf hoi hdi ?_)
  dsimp only
  refine wpAny_bind (wpAny_setEntries_of ho hd hf ?_)
  rw [if_neg (by simp [hn])]
  refine wpAny_bind (wpAny_seqItems hT hdT ?_)
  dsimp only
  have e1 : ((pl.map fun (j : Nat) => rawInt j).toArray)[(i : Int).toNat]? = some (.int p 0) := by
    rw [Int.toNat_natCast]
    simp [hp, rawInt]
  rw [e1]
  dsimp only
  refine wpAny_bind ?_
  unfold setNextDrawn
  refine wpAny_bind (wpAny_setState_of ho hd hf ?_)
  dsimp only
  refine wpAny_ite_split (fun hy => absurd hy (by simp)) (fun _ => ?_)
  rw [show ((p : Int).toNat) = p from Int.toNat_natCast p, hx]
  dsimp only
  refine wpAny_pure ?_
  refine wpAny_bind (wpAny_setField hoi hdi (by simp) ?_)
  have h1 := Heap.get?_update_self (Obj.mapFields (·.setIfInBounds 1 (rawInt ((i : Int) + 1)))) hoi (Obj.isFreed_of_fields (Obj.data_mapFields hdi _))
  refine wpAny_pure ⟨_, rfl, wpAny_pure (hQ _ ⟨_, h1, ?_, ?_⟩ (Heap.SameBut.update ..))⟩
  · rw [Obj.cls_mapFields]
    exact hci
  · rw [Obj.data_mapFields hdi]
    simp [rawInt]
theorem drawn_end {T : Addr} {pl : List Nat} {ot : Obj} {Q : Option Value → Shared → Prop} (hh : A.handled = none) (hit : ItAt s.heap I (.ref T) i S n ep) (ho : s.heap.get? S = some o) (hd : o.data = .set es ep t) (hf : t.fits es.size = true) (hn : es.size = n)
    (hT : s.heap.get? T = some ot) (hdT : ot.data = .seq ((pl.map fun (j : Nat) => rawInt j).toArray) 0) (hp : pl[i]? = none)
    (hQ : ∀ h', Heap.ExtBut I s.heap h' → Q none { s with heap := h' }) : wpAny (model prog w) A (pyNext (.ref I)) Q E s := by
  obtain ⟨oi, hoi, hci, hdi⟩ := id hit
  unfold pyNext
  refine wpAny_bind (wpAny_attempt (wpAny_callSpecial?_slot (name := Str.ofString "__next__") hit.ty si_next (wpAny_call_entry si_next hit.ty si_next_entry ?_ (si_next_args _))))
  unfold Builtin.«set_iterator.__next__»
  refine wpAny_bind (m := slotArgs "__next__" 0 _) (wpAny_pure ?_)
  refine wpAny_bind (wpAny_fieldsOf hoi hdi ?_)
  dsimp only
  refine wpAny_bind (wpAny_setEntries_of ho hd hf ?_)
  rw [if_neg (by simp [hn])]
  refine wpAny_bind (wpAny_seqItems hT hdT ?_)
  dsimp only
  have e1 : ((pl.map fun (j : Nat) => rawInt j).toArray)[(i : Int).toNat]? = none := by
    rw [Int.toNat_natCast]
    simpa using hp
  rw [e1]
  dsimp only
  refine wpAny_bind (wpAny_setField hoi hdi (by simp) ?_)
  have h1 := Heap.get?_update_self (Obj.mapFields (·.setIfInBounds 0 (rawInt 0))) hoi (Obj.isFreed_of_fields (Obj.data_mapFields hdi _))
  refine wpAny_bind (wpAny_setField h1 (Obj.data_mapFields hdi _) (by simp) ?_)
  refine wpAny_bind ?_
  simp only [newExc, newTuple]
  refine wpAny_bind (wpAny_newObj_type ?_ (by size_fits))
  refine wpAny_bind (m := firstArgMember _ _) (wpAny_of_eq (a := Value.none) (by first | rfl | (simp only [firstArgMember]; rfl)) (wpAny_newObj_type ?_ (by size_fits)))
  refine wpAny_raiseNew_none (by simpa using hh) ?_
  refine wpAny_bind (wpAny_isInstance (T := "StopIteration") (b := true) ⟨_, Heap.get?_push_size _ rfl, rfl⟩ isSubtype_stop (wpAny_pure (hQ _ ?_)))
  exact (((Heap.SameBut.update ..).trans (Heap.SameBut.update ..)).extBut.push _).push _
end
end Lw

end

section
set_option Elab.async false
set_option linter.all false
set_option maxRecDepth 100000
namespace Lw
open PySem PyProof.Rows
section
variable {prog : Program} {w : World} {A : Around} {I S : Addr} {ep : Nat} {o : Obj} {es : Array (Int × Value)} {t : SetTable}
theorem walk_txt (hh : A.handled = none) (hne : S ≠ I) (hb : byTxt w = true) (hd : o.data = .set es ep t) (hf : t.fits es.size = true) :
    Walks prog w A I [I, S] [I] es.size (fun i v => ((pickOrder (w.params.setOrder S ep) es).toList.map (·.2))[i]? = some v) (fun i h => ItAt h I (.int ((0 : Nat) : Int) 0) i S es.size ep ∧ h.get? S = some o) where
  sub := fun b hb => by
    have : b = I := by simpa using hb
    simp [this]
  frame := fun _ _ _ st hk => ⟨st.1.keep fun u e => hk I (by simp) u e, hk S (by simp) _ st.2⟩
  item := fun i s Q E hi st hQ => by
    have hz : (pickOrder (w.params.setOrder S ep) es).size = es.size := by
      have := (pick_perm (w.params.setOrder S ep) es).length_eq
      rw [Array.length_toList, Array.length_toList] at this
      exact this
    obtain ⟨e, he⟩ : ∃ e, (pickOrder (w.params.setOrder S ep) es)[i]? = some e := ⟨_, Array.getElem?_eq_getElem (by omega)⟩
    refine next_item st.1 st.2 hd hf rfl (x := e.2) (nx := 0) (fun A' Q' E' q => next_txt hb st.2 hd hf (by rw [he]; exact q)) fun h' hit' sb => ?_
    refine hQ e.2 h' s.toks (by rw [List.getElem?_map, Array.getElem?_toList, he]; rfl) ⟨hit', by rw [sb.2 S hne]; exact st.2⟩ fun b u hb' e' => ?_
    rw [sb.2 b (fun z => hb' (by simp [z]))]
    exact e'
  done := fun s Q E st hQ => by
    have hz : (pickOrder (w.params.setOrder S ep) es).size = es.size := by
      have := (pick_perm (w.params.setOrder S ep) es).length_eq
      rw [Array.length_toList, Array.length_toList] at this
      exact this
    refine next_end hh st.1 st.2 hd hf rfl (fun A' Q' E' q => next_txt hb st.2 hd hf (by rw [Array.getElem?_eq_none (by omega)]; exact q)) fun h' hx => ?_
    exact hQ h' s.toks fun b u hb' e' => hx b u (fun z => hb' (by simp [z])) e'
  self := fun _ _ _ _ st hQ => iter_self st.1 hQ
/-- where the i-th is looked for -/
def slotAt (t : SetTable) : Nat → Nat
  | 0 => 0
  | i + 1 => t.place.getD i 0 + 1
theorem slotAt_below {t : SetTable} (hr : Rise t.place) {i : Nat} (h : i ≤ t.place.size) : SetTable.below t.place (slotAt t i) = i := by
  cases i with
  | zero => exact below_zero hr
  | succ i =>
    have hg := Array.getElem?_eq_getElem (show i < t.place.size by omega)
    have : t.place.getD i 0 = t.place[i] := by simp [Array.getD, show i < t.place.size by omega]
    show SetTable.below t.place (t.place.getD i 0 + 1) = i + 1
    rw [this]
    exact below_next hr hg
theorem fits_size {t : SetTable} {n : Nat} (h : t.fits n = true) : t.place.size = n := by
  unfold SetTable.fits at h
  rw [Bool.and_eq_true, beq_iff_eq] at h
  exact h.1
theorem walk_led (hh : A.handled = none) (hne : S ≠ I) (hb : byTxt w = false) (hdr : (!t.plain && decide (es.size > 1)) = false) (ht : TabOk (byTxt w) t) (hd : o.data = .set es ep t) (hf : t.fits es.size = true) :
    Walks prog w A I [I, S] [I] es.size (fun i v => (es.toList.map (·.2))[i]? = some v) (fun i h => ItAt h I (.int ((slotAt t i : Nat) : Int) 0) i S es.size ep ∧ h.get? S = some o) where
  sub := fun b hb => by
    have : b = I := by simpa using hb
    simp [this]
  frame := fun _ _ _ st hk => ⟨st.1.keep fun u e => hk I (by simp) u e, hk S (by simp) _ st.2⟩
  item := fun i s Q E hi st hQ => by
    have hl : t.led = true := by rw [ht.1, hb]; rfl
    have hz := fits_size hf
    have he := Array.getElem?_eq_getElem hi
    have hp := Array.getElem?_eq_getElem (show i < t.place.size by omega)
    refine next_item st.1 st.2 hd hf rfl (x := es[i].2) (nx := t.place[i] + 1) (fun A' Q' E' q => next_led hb hdr hl st.2 hd hf (by rw [slotAt_below ht.2 (by omega), he, hp]; exact q)) fun h' hit' sb => ?_
    have hs : slotAt t (i + 1) = t.place[i] + 1 := by
      show t.place.getD i 0 + 1 = _
      simp [Array.getD, show i < t.place.size by omega]
    refine hQ es[i].2 h' s.toks (by rw [List.getElem?_map, Array.getElem?_toList, he]; rfl) ⟨by rw [hs]; exact hit', by rw [sb.2 S hne]; exact st.2⟩ fun b u hb' e' => ?_
    rw [sb.2 b (fun z => hb' (by simp [z]))]
    exact e'
  done := fun s Q E st hQ => by
    have hl : t.led = true := by rw [ht.1, hb]; rfl
    have hz := fits_size hf
    refine next_end hh st.1 st.2 hd hf rfl (fun A' Q' E' q => next_led hb hdr hl st.2 hd hf (by rw [slotAt_below ht.2 (by omega), Array.getElem?_eq_none (by omega)]; exact q)) fun h' hx => ?_
    exact hQ h' s.toks fun b u hb' e' => hx b u (fun z => hb' (by simp [z])) e'
  self := fun _ _ _ _ st hQ => iter_self st.1 hQ
theorem walk_drawn {T : Addr} {pl : List Nat} (hh : A.handled = none) (hne : S ≠ I) (hnT : T ≠ I) (hd : o.data = .set es ep t) (hf : t.fits es.size = true) (hp : pl.Perm (List.range es.size)) :
    Walks prog w A I [I, S, T] [I] es.size (fun i v => (pl.map fun j => (es.getD j (0, .none)).2)[i]? = some v) (fun i h => ItAt h I (.ref T) i S es.size ep ∧ h.get? S = some o ∧ ∃ ot, h.get? T = some ot ∧ ot.data = .seq ((pl.map fun (j : Nat) => rawInt j).toArray) 0) where
  sub := fun b hb => by
    have : b = I := by simpa using hb
    simp [this]
  frame := fun _ _ _ st hk => ⟨st.1.keep fun u e => hk I (by simp) u e, hk S (by simp) _ st.2.1, let ⟨ot, h1, h2⟩ := st.2.2; ⟨ot, hk T (by simp) _ h1, h2⟩⟩
  item := fun i s Q E hi st hQ => by
    obtain ⟨ot, h1, h2⟩ := st.2.2
    have hz : pl.length = es.size := by rw [hp.length_eq, List.length_range]
    have hpi := List.getElem?_eq_getElem (show i < pl.length by omega)
    have hlt : pl[i] < es.size := by
      have := hp.mem_iff.mp (List.getElem_mem (show i < pl.length by omega))
      simpa using this
    have he := Array.getElem?_eq_getElem hlt
    refine drawn_item st.1 st.2.1 hd hf rfl h1 h2 hpi he fun h' hit' sb => ?_
    refine hQ _ h' s.toks (by rw [List.getElem?_map, hpi]; simp [Array.getD, hlt]) ⟨hit', by rw [sb.2 S hne]; exact st.2.1, ot, by rw [sb.2 T hnT]; exact h1, h2⟩ fun b u hb' e' => ?_
    rw [sb.2 b (fun z => hb' (by simp [z]))]
    exact e'
  done := fun s Q E st hQ => by
    obtain ⟨ot, h1, h2⟩ := st.2.2
    have hz : pl.length = es.size := by rw [hp.length_eq, List.length_range]
    refine drawn_end hh st.1 st.2.1 hd hf rfl h1 h2 (List.getElem?_eq_none (by omega)) fun h' hx => ?_
    exact hQ h' s.toks fun b u hb' e' => hx b u (fun z => hb' (by simp [z])) e'
  self := fun _ _ _ _ st hQ => iter_self st.1 hQ
end
/-- values that are the set's ints, in some order -/
structure Gives (vs : List Value) (ns : List Int) : Prop where
  isI : IntsAre vs (vs.map keyOf)
  nd : (vs.map keyOf).Nodup
  mem : ∀ k, k ∈ vs.map keyOf ↔ k ∈ ns
  le : vs.length ≤ ns.length
theorem ints_of : ∀ (vs : List Value), (∀ v ∈ vs, ∃ n t, v = Value.int n t) → IntsAre vs (vs.map keyOf)
  | [], _ => .nil
  | v :: vs, h => by
    obtain ⟨n, t, rfl⟩ := h v (by simp)
    exact .cons n t (ints_of vs fun u hu => h u (by simp [hu]))
theorem range_vals (es : Array (Int × Value)) : (List.range es.size).map (fun j => (es.getD j (0, .none)).2) = es.toList.map (·.2) := by
  refine List.ext_getElem (by simp) fun i h1 h2 => ?_
  have hi : i < es.size := by simpa using h1
  simp [Array.getD, hi]
theorem SetCore.gives {prog : Program} {w : World} {es : Array (Int × Value)} {ns : List Int} {vs : List Value} (h : SetCore prog w es ns) (p : vs.Perm (es.toList.map (·.2))) : Gives vs ns := by
  have pk : (vs.map keyOf).Perm (keysOf es) := by
    have := p.map keyOf
    rw [List.map_map] at this
    exact this
  refine ⟨ints_of vs fun v hv => ?_, pk.nodup_iff.mpr h.nd, fun k => pk.mem_iff.trans (h.mem k), ?_⟩
  · obtain ⟨e, he, rfl⟩ := List.mem_map.mp (p.mem_iff.mp hv)
    obtain ⟨⟨k, hk, _⟩, _⟩ := h.el e he
    obtain ⟨t, ht⟩ := Value.isInt_shape hk
    exact ⟨k, t, ht⟩
  · have := p.length_eq
    rw [List.length_map] at this
    rw [this, Array.length_toList]
    exact h.le
section
variable {prog : Program} {w : World} {A : Around} {E : Value → Shared → Prop} {s : Shared} {S : Addr} {o : Obj} {ns : List Int}
theorem iter_is {Q : Value → Shared → Prop} (hns : ns.length ≤ sizeLine) (ho : s.heap.get? S = some o) (hS : SetIs prog w o ns)
    (h : ∀ (I : Addr) (h1 : Heap) (d' : Drawn) (fp : List Addr) (St : Nat → Heap → Prop) (vs : List Value), (∀ b u, s.heap.get? b = some u → h1.get? b = some u) → s.heap.objs.size ≤ I → (∀ b ∈ fp, b = S ∨ s.heap.objs.size ≤ b) →
      (∀ A' : Around, A'.handled = none → Walks prog w A' I fp [I] vs.length (fun i v => vs[i]? = some v) St) → St 0 h1 → Gives vs ns → Q (.ref I) { s with heap := h1, drawn := d' }) : wpAny (model prog w) A (pyIter (.ref S)) Q E s := by
  obtain ⟨hex, es, ep, t, hd, hc, hf, ht⟩ := hS
  have hT : s.TypeIs (.ref S) "set" := ⟨o, ho, hex.1⟩
  have hSz : S < s.heap.objs.size := Heap.lt_size ho
  refine wpAny_pyIter_slot hT F.slot_set_iter (wpAny_call_entry F.slot_set_iter hT set_iter_entry ?_ (F.args_set_iter_1 _))
  unfold Builtin.«frozenset.__iter__» Builtin.Frozenset.slot0 Builtin.Frozenset.sizeOf
  refine wpAny_bind (wpAny_bind (m := slotArgs "__iter__" 0 _) (wpAny_pure (wpAny_pure ?_)))
  refine wpAny_bind (wpAny_bind (wpAny_setEntries_of ho hd hf (wpAny_pure ?_)))
  refine wpAny_bind ?_
  unfold setDrawn setsByText
  refine wpAny_bind (wpAny_setState_of ho hd hf ?_)
  dsimp only
  refine wpAny_bind (wpAny_bind (wpAny_askSetting (wpAny_pure (wpAny_pure ?_))))
  have key : ∀ (first : Value) (h1 : Heap) (d' : Drawn) (fp : List Addr) (St : Nat → Heap → Prop) (vs : List Value), (∀ b u, s.heap.get? b = some u → h1.get? b = some u) → s.heap.objs.size ≤ h1.objs.size → (∀ b ∈ fp, b = S ∨ s.heap.objs.size ≤ b) →
      (∀ A' : Around, A'.handled = none → Walks prog w A' h1.objs.size fp [h1.objs.size] vs.length (fun i v => vs[i]? = some v) St) → (∀ h2, (∀ b u, h1.get? b = some u → h2.get? b = some u) → ItAt h2 h1.objs.size first 0 S es.size ep → St 0 h2) → Gives vs ns →
      wpAny (model prog w) A.in1 (do
        let e ← setEpoch S
        let it ← newFields "set_iterator" [first, rawInt 0, .ref S, rawInt es.size, rawInt e]
        ret it) (fun fin s' => ∃ r, fin = .done (.ret r) ∧ ∃ T' r', s'.TypeIs r T' ∧ typeLookup (.type T') "__next__" = pure (some r') ∧ Q r s') E { s with heap := h1, drawn := d' } := fun first h1 d' fp St vs k1 k2 k3 k4 k5 k6 => by
    refine wpAny_bind (wpAny_setEpoch_of (s := { s with heap := h1, drawn := d' }) (k1 _ _ ho) hd hf ?_)
    refine wpAny_bind (wpAny_newObj_type (wpAny_pure ⟨_, rfl, "set_iterator", _, ⟨_, Heap.get?_push_size _ rfl, rfl⟩, si_next.lookup, ?_⟩))
    refine h h1.objs.size _ d' fp St vs (fun b u e => Heap.get?_push_of_some _ (k1 b u e)) k2 k3 k4 (k5 _ (fun b u e => Heap.get?_push_of_some _ e) ⟨_, Heap.get?_push_size _ rfl, rfl, rfl⟩) k6
  refine wpAny_ite_split (fun _ => ?_) (fun hy => ?_)
  · refine wpAny_bind (draw_any _ _ _ _ List.length_range fun pl d' hp => ?_)
    have hz : pl.length = es.size := by rw [hp.length_eq, List.length_range]
    have hle := hc.le
    refine wpAny_bind (wpAny_newTuple ?_ (by rw [List.length_map, hz]; omega))
    have hsz := size_push' s.heap { cls := .type "tuple", data := .seq (pl.map fun (j : Nat) => rawInt j).toArray }
    refine key (.ref s.heap.objs.size) _ d' [(s.heap.push { cls := .type "tuple", data := .seq (pl.map fun (j : Nat) => rawInt j).toArray }).objs.size, S, s.heap.objs.size] (fun i h => ItAt h (s.heap.push { cls := .type "tuple", data := .seq (pl.map fun (j : Nat) => rawInt j).toArray }).objs.size (.ref s.heap.objs.size) i S es.size ep ∧ h.get? S = some o ∧ ∃ ot, h.get? s.heap.objs.size = some ot ∧ ot.data = .seq ((pl.map fun (j : Nat) => rawInt j).toArray) 0) (pl.map fun j => (es.getD j (0, .none)).2) (fun b u e => Heap.get?_push_of_some _ e) (by rw [hsz]; exact Nat.le_succ _) (fun b hb => ?_) (fun A' hh => ?_) (fun h2 k2 hit => ⟨hit, k2 _ _ (Heap.get?_push_of_some _ ho), _, k2 _ _ (Heap.get?_push_size _ rfl), rfl⟩) (hc.gives ?_)
    · simp only [List.mem_cons, List.not_mem_nil, or_false] at hb
      rcases hb with rfl | rfl | rfl
      · exact .inr (by rw [hsz]; exact Nat.le_succ _)
      · exact .inl rfl
      · exact .inr (Nat.le_refl _)
    · have hw := walk_drawn (prog := prog) (w := w) (A := A') (I := (s.heap.push { cls := .type "tuple", data := .seq (pl.map fun (j : Nat) => rawInt j).toArray }).objs.size) (S := S) (T := s.heap.objs.size) hh (by rw [hsz]; exact Nat.ne_of_lt (Nat.lt_succ_of_lt hSz)) (by rw [hsz]; exact Nat.ne_of_lt (Nat.lt_succ_self _)) hd hf hp
      rw [List.length_map, hz]
      exact hw
    · refine (hp.map _).trans (List.Perm.of_eq ?_)
      exact range_vals es
  · refine wpAny_bind (wpAny_pure ?_)
    have hfp : ∀ b ∈ [s.heap.objs.size, S], b = S ∨ s.heap.objs.size ≤ b := fun b hb => by
      simp only [List.mem_cons, List.not_mem_nil, or_false] at hb
      rcases hb with rfl | rfl
      · exact .inr (Nat.le_refl _)
      · exact .inl rfl
    cases hb : byTxt w with
    | true =>
      have hp := (pick_perm (w.params.setOrder S ep) es).map (·.2)
      refine key (rawInt 0) s.heap s.drawn _ (fun i h => ItAt h s.heap.objs.size (.int ((0 : Nat) : Int) 0) i S es.size ep ∧ h.get? S = some o) ((pickOrder (w.params.setOrder S ep) es).toList.map (·.2)) (fun b u e => e) (Nat.le_refl _) hfp (fun A' hh => ?_) (fun h2 k2 hit => ⟨hit, k2 _ _ ho⟩) (hc.gives hp)
      have hz := hp.length_eq
      rw [hz, List.length_map, Array.length_toList]
      exact walk_txt hh (Nat.ne_of_lt hSz) hb hd hf
    | false =>
      have hy : ¬ (!byTxt w && (!t.plain && decide (es.size > 1))) = true := hy
      have hdr : (!t.plain && decide (es.size > 1)) = false := by
        rw [hb] at hy
        simpa using hy
      refine key (rawInt 0) s.heap s.drawn _ (fun i h => ItAt h s.heap.objs.size (.int ((slotAt t i : Nat) : Int) 0) i S es.size ep ∧ h.get? S = some o) (es.toList.map (·.2)) (fun b u e => e) (Nat.le_refl _) hfp (fun A' hh => ?_) (fun h2 k2 hit => ⟨hit, k2 _ _ ho⟩) (hc.gives .rfl)
      rw [List.length_map, Array.length_toList]
      exact walk_led hh (Nat.ne_of_lt hSz) hb hdr ht hd hf
end
end Lw

end

section
set_option Elab.async false
set_option linter.all false
set_option maxRecDepth 100000
namespace Lw
open PySem PyProof.Rows
section
variable {prog : Program} {w : World} {A : Around} {E : Value → Shared → Prop} {s : Shared} {S : Addr} {o : Obj} {ns : List Int}
theorem hint_set {Q : Bool → Shared → Prop} (hT : s.TypeIs (.ref S) "set") (h : Q false s) : wpAny (model prog w) A (Builtin.List.listLengthHint (.ref S)) Q E s := by
  unfold Builtin.List.listLengthHint
  refine wpAny_bind (wpAny_specialOf hT PySem.F.slot_set_len.lookup ?_)
  generalize hid : ("set.__len__" : String) = id0
  wp_delta
  rw [show splitId id0 = some ("set", "__len__") from by subst hid; decide +kernel]
  subst hid
  refine wpAny_bind (wpAny_isInstance (T := "set") (b := true) hT (by rw [isSubtype_type]; kernel_rfl) ?_)
  refine wpAny_ite_split (fun z => absurd z (by decide)) (fun _ => ?_)
  refine wpAny_ite_split (fun _ => ?_) (fun z => absurd (by decide +kernel) z)
  exact wpAny_bind (wpAny_typeOf hT (wpAny_pure h))
theorem items_eq {vs : List Value} {acc : Array Value} (h : ItemsOf (fun i v => vs[i]? = some v) acc vs.length) : acc.toList = vs := by
  refine List.ext_getElem? fun i => ?_
  by_cases hi : i < acc.size
  · have hg := Array.getElem?_eq_getElem hi
    rw [h.2 i _ hg, Array.getElem?_toList, hg]
  · rw [List.getElem?_eq_none (by rw [Array.length_toList]; omega), List.getElem?_eq_none (by rw [← h.1]; omega)]
theorem collect_is {R : List Value → Shared → Prop} (hh : A.handled = none) (hns : ns.length ≤ sizeLine) (ho : s.heap.get? S = some o) (hS : SetIs prog w o ns)
    (h : ∀ h' tk d' vs, (∀ b u, s.heap.get? b = some u → h'.get? b = some u) → s.heap.objs.size ≤ h'.objs.size → Gives vs ns → R vs { s with heap := h', toks := tk, drawn := d' }) : wpAny (model prog w) A (collect (.ref S)) R E s := by
  have hex := hS.1
  have hSz : S < s.heap.objs.size := Heap.lt_size ho
  unfold collect
  refine wpAny_bind (wpAny_runValue (codeAny_builtin entry_proto_collect' ?_)); rw [Around.under_plainId PySem.F.plain_proto_collect _]
  show wpAny _ A.in1 (newList [] >>= fun l => again (.builtin "list.__iadd__" ⟨[l, .ref S], []⟩)) _ _ s
  refine wpAny_bind (wpAny_newObj_type (wpAny_pure ⟨plainId_quiet PySem.F.plain_list_iadd _, codeAny_builtin entry_list_iadd' ?_⟩)); rw [Around.under_plainId PySem.F.plain_list_iadd _]
  show wpAny _ A.in1 (Builtin.List.listExtendWith (.ref s.heap.objs.size) (.ref S) (.ref s.heap.objs.size)) _ _ _
  have hL : (s.heap.push { cls := .type "list", data := .seq ([] : List Value).toArray }).get? s.heap.objs.size = some { cls := .type "list", data := .seq #[] } := Heap.get?_push_size _ rfl
  have hS1 : (s.heap.push { cls := .type "list", data := .seq ([] : List Value).toArray }).get? S = some o := Heap.get?_push_of_some _ ho
  have hsz := size_push' s.heap { cls := .type "list", data := .seq ([] : List Value).toArray }
  unfold Builtin.List.listExtendWith
  refine wpAny_bind (wpAny_typeOf (T := "set") ⟨o, hS1, hex.1⟩ ?_)
  have e1 : Builtin.List.listSameRef (.ref s.heap.objs.size) (.ref S) = false := by
    simp only [Builtin.List.listSameRef, beq_eq_false_iff_ne]
    exact Nat.ne_of_gt hSz
  have e2 : (Value.type "set" == Value.type "list") = false := by decide
  have e3 : (Value.type "set" == Value.type "tuple") = false := by decide
  simp only [e1, e2, e3, Bool.or_false, Bool.false_eq_true, if_false]
  refine wpAny_bind (iter_is hns hS1 hS fun I h1 d' fp St vs k1 k2 k3 k4 k5 k6 => ?_)
  refine wpAny_bind (wpAny_holding (hint_set ⟨o, k1 _ _ hS1, hex.1⟩ ?_))
  have hLf : s.heap.objs.size ∉ fp := fun z => by
    rcases k3 _ z with z | z
    · exact Nat.ne_of_gt hSz z
    · rw [hsz] at z
      exact absurd z (Nat.not_succ_le_self _)
  have key : ∀ (h2 : Heap) (c1 : Nat), St 0 h2 → (∀ b u, b ≠ s.heap.objs.size → h1.get? b = some u → h2.get? b = some u) → h2.get? s.heap.objs.size = some { cls := .type "list", data := .seq #[] c1 } →
      codeAny (model prog w) A (.builtin "list.extend.loop" ⟨[.ref s.heap.objs.size, .ref I, .ref s.heap.objs.size], []⟩) (fun r s' => match r with | .ok (.ret v) => v = .ref s.heap.objs.size ∧ ∃ h' tk acc c', s' = { s with heap := h', toks := tk, drawn := d' } ∧ h'.get? s.heap.objs.size = some { cls := .type "list", dict := none, data := .seq acc c', slots := #[] } ∧ acc.toList = vs ∧ ∀ b u, s.heap.get? b = some u → h'.get? b = some u | _ => False) { s with heap := h2, drawn := d' } := fun h2 c1 st hk hg => by
    refine codeAny_extend_loopS (k4 A.in1 hh).toS (Nat.le_trans k6.le hns) s.heap.objs.size hLf _ vs.length 0 _ #[] c1 rfl (Nat.zero_le _) st hg (ItemsOf.nil _) fun s' acc' c' hm hS' hacc => ?_
    refine ⟨rfl, s'.heap, s'.toks, acc', c', ?_, hS', items_eq hacc, fun b u e => ?_⟩
    · obtain ⟨a1, a2, a3, a4, a5⟩ := s'
      have q1 := hm.gens
      have q2 := hm.drawn
      have q3 := hm.os
      cases q1; cases q2; cases q3
      rfl
    · have hb := Heap.lt_size e
      refine hm.heap b u (fun z => ?_) (hk b u (Nat.ne_of_lt hb) (k1 b u (Heap.get?_push_of_some _ e)))
      rcases List.mem_cons.mp z with z | z
      · exact Nat.ne_of_lt hb z
      · have : b = I := by simpa using z
        rw [this] at hb
        rw [hsz] at k2
        exact absurd (Nat.lt_of_lt_of_le hb (Nat.le_of_succ_le k2)) (Nat.lt_irrefl _)
  refine wpAny_ite_split (fun _ => ?_) (fun z => absurd (by decide +kernel) z)
  refine wpAny_bind (wpAny_rule (wpAny_bind (show wpAny _ _ (updateSeq s.heap.objs.size (·.push .none) >>= fun _ => updateSeq s.heap.objs.size (·.pop)) _ _ _ from ?_)))
  have g1 := k1 _ _ hL
  refine wpAny_bind (wpAny_updateSeq g1 rfl ?_)
  have g2 := Heap.get?_update_self (Obj.mapSeq (·.push Value.none)) g1 rfl
  refine wpAny_updateSeq (hz := by seq_fits) g2 rfl ?_
  have g3 := Heap.get?_update_self (Obj.mapSeq (·.pop)) g2 rfl
  refine wpAny_pure ⟨plainId_quiet PySem.F.plain_extend_loop _, codeAny_mono (key _ _ ?_ (fun b u hb e => ?_) g3) fun r s' hr => ?_⟩
  · refine (k4 A.in1 hh).frame 0 _ _ k5 fun b hb u e => ?_
    have hbL : b ≠ s.heap.objs.size := fun z => hLf (z ▸ hb)
    exact (Heap.get?_update_other _ _ (Ne.symm hbL)).trans ((Heap.get?_update_other _ _ (Ne.symm hbL)).trans e)
  · exact (Heap.get?_update_other _ _ (Ne.symm hb)).trans ((Heap.get?_update_other _ _ (Ne.symm hb)).trans e)
  · cases r with
    | error e => exact hr.elim
    | ok fl =>
      cases fl with
      | ret v =>
        obtain ⟨rfl, h', tk, acc, c', rfl, hg, rfl, hk⟩ := hr
        show wpAny _ A (load s.heap.objs.size >>= _) _ _ _
        exact wpAny_bind (wpAny_load hg (wpAny_pure (h h' tk d' _ hk (Nat.le_of_lt (Heap.lt_size hg)) k6)))
      | _ => exact hr.elim
theorem sorted_is {Q : Value → Shared → Prop} (hh : A.handled = none) (h64 : ns.length < 64) (ho : s.heap.get? S = some o) (hS : SetIs prog w o ns)
    (h : ∀ (h' : Heap) (tk : Nat) (d' : Drawn) (p : Addr) (out : Array Value) (ks : List Int) (e : Nat), (∀ b u, s.heap.get? b = some u → h'.get? b = some u) → s.heap.objs.size ≤ p → h'.get? p = some (seqObj "list" out e) → IntsAre out.toList ks → ks.Pairwise (· < ·) → (∀ k, k ∈ ks ↔ k ∈ ns) → ks.length ≤ ns.length →
      Q (.ref p) { s with heap := h', toks := tk, drawn := d' }) : wpAny (model prog w) A (call (.builtin "sorted") [.ref S]) Q E s := by
  have hns : ns.length ≤ sizeLine := by rw [sizeLine_eq]; omega
  refine Calls.call_function_entry kind_sorted plain_sorted entry_sorted (args_sorted1 _) ?_; unfold Builtin.«sorted»
  refine wpAny_bind (m := checkCount "sorted" 1 1 _) (wpAny_pure (wpAny_bind (collect_is (A := A.in1) hh hns ho hS fun h' tk d' vs hk hsz hg => ?_)))
  have hle := hg.le
  refine wpAny_bind (wpAny_newList ?_ (by omega))
  have hoL : (h'.push (seqObj "list" vs.toArray 0)).get? h'.objs.size = some (seqObj "list" vs.toArray 0) := Heap.get?_push_size _ rfl
  refine wpAny_bind (wpAny_holding (wpAny_call_entry slot_list_sort ⟨_, hoL, rfl⟩ entry_list_sort (list_sort_tree hoL hg.isI (by omega) fun out ks a1 a2 a3 => ⟨_, rfl, wpAny_pure ⟨_, rfl, ?_⟩⟩) (args_list_sort _)))
  obtain ⟨e, he⟩ := sortedHeap_at (vs := vs) (out := out) hoL
  refine h _ tk d' _ out ks e (fun b u q => ?_) hsz he a1 ?_ (fun k => a2.mem_iff.trans (hg.mem k)) (by rw [a2.length_eq, List.length_map]; exact hle)
  · have q2 := Heap.get?_push_of_some (seqObj "list" vs.toArray 0) (hk b u q)
    rw [sortedHeap_old (Nat.ne_of_lt (Heap.lt_size (hk b u q))) (Heap.lt_size q2)]
    exact q2
  · have nd : ks.Nodup := a2.nodup_iff.mpr hg.nd
    exact (a3.and nd).imp fun {a b} z => Int.lt_iff_le_and_ne.mpr z
end
end Lw

end

section
set_option Elab.async false
set_option linter.all false
set_option maxRecDepth 100000
namespace L2
open PySem PySem.Spec PyProof.Rows
section
variable {X : Cx} {a b o : Expr} {ta tb : TE} {apos pos : Pos}
/-- != of nothing and whole numbers -/
theorem pc_neV (ha : PE X a ta) (hb : PE X b tb) : PC X .NotEq a b (tOp rNe ta tb) := fun pins s σ H Q I h => binT ha hb I h fun v u s2 x y H2 I2 rx ry q => op_ne pins s2 σ H2 x y v u Q I2 rx ry q
/-- != of lists -/
theorem pc_neDK (K : PySem.W.Frag) (hu : X.A.units + 64 < cLine) (ha : PE X a ta) (hb : PE X b tb) (hK : X.K = K := by rfl) : PC X .NotEq a b (tOp (rNeD K) ta tb) := by
  subst hK
  exact fun pins s σ H Q I h => binT ha hb I h fun v u s2 x y H2 I2 rx ry q => op_neD hu pins s2 σ H2 x y v u Q I2 rx ry q
/-- None in a list of lists and Nones -/
def isNon : V → Bool
  | .non => true
  | _ => false
def isNoneU : Value → Bool
  | .none => true
  | _ => false
def rInN (K : PySem.W.Frag) : R2 := fun x y H Q => x = .non ∧ ∃ p xs, y = .ref p ∧ SqL K H p xs ∧ (∀ v ∈ xs, v = .non ∨ ∃ q ys, v = .ref q ∧ SqL K H q ys) ∧ Q (.bl (xs.any isNon)) H
theorem any_non : ∀ {xs : List V} {us : List Value}, Vals xs us → (∀ v ∈ xs, v = .non ∨ ∃ q, v = .ref q) → us.any isNoneU = xs.any isNon
  | _, _, .nil, _ => rfl
  | y :: xs, u :: us, .cons r t, h => by
    rw [List.any_cons, List.any_cons, any_non t fun v hv => h v (by simp [hv])]
    refine congrArg (· || _) ?_
    rcases h y (by simp) with rfl | ⟨q, rfl⟩
    · cases r; rfl
    · cases r; rfl
theorem vals_mem : ∀ {xs : List V} {us : List Value}, Vals xs us → ∀ u ∈ us, ∃ x ∈ xs, RelV x u
  | _, _, .nil => fun u hu => by cases hu
  | y :: xs, u :: us, .cons r t => fun u' hu => by
    rcases List.mem_cons.mp hu with rfl | hu
    · exact ⟨y, by simp, r⟩
    · obtain ⟨x, hx, q⟩ := vals_mem t u' hu
      exact ⟨x, by simp [hx], q⟩
theorem op_inN (hu : X.A.units + 64 < cLine) : OpR X (compareOp .In) (rInN X.K) := by
  intro pins s σ H x y v u Q I rx ry h
  obtain ⟨rfl, p, xs, rfl, hq, hall, q⟩ := h
  cases ry
  cases rx
  obtain ⟨its, r, pl, hz⟩ := I.list hq
  refine SeqAt.in_listAt isNoneU pl.isList (fun w hw => ?_) ⟨.bl _, H, I, rfl, ?_⟩
  · obtain ⟨z, hz', rz⟩ := vals_mem r w (by simpa using hw)
    rcases hall z hz' with rfl | ⟨q', ys, rfl, hs⟩
    · cases rz
      exact SeqAt.EqAt.same _
    · cases rz
      obtain ⟨_, _, pl2, _⟩ := I.list hs
      exact SeqAt.EqAt.list_none pl2.isList (Nat.lt_of_le_of_lt (show X.A.units + 1 ≤ X.A.units + 64 by omega) hu)
  · rw [show its.toArray.any isNoneU = its.any isNoneU by simp, any_non r fun v hv => (hall v hv).imp id fun ⟨q', _, e, _⟩ => ⟨q', e⟩]
    exact q
theorem pc_inN (hu : X.A.units + 64 < cLine) (ha : PE X a ta) (hb : PE X b tb) : PC X .In a b (tOp (rInN X.K) ta tb) := fun pins s σ H Q I h => binT ha hb I h fun v u s2 x y H2 I2 rx ry q => op_inN hu pins s2 σ H2 x y v u Q I2 rx ry q
/-! ### a set, and its ints in order -/
def setO (P : Program) (w : World) (p : Addr) (ns : List Int) : HO := .ext fun h => ∃ o, h.get? p = some o ∧ Lw.SetIs P w o ns
def rSet (P : Program) (w : World) (K : PySem.W.Frag) : List V → Hp → VK → Prop := fun vs H Q => ∃ (p : Addr) (ns : List Int), vs = [V.ref p] ∧ SqL K H p (ns.map V.int) ∧ ns.length ≤ 1000 ∧ ∀ q, H q = none → Q (.ref q) (upd H q (setO P w q ns))
theorem cr_set (hc : X.calm = true) : CallR X (.type "set") (rSet X.prog X.w X.K) := by
  intro pins s σ H vs us Q I r h
  obtain ⟨p, ns, rfl, hs, hlen, q⟩ := h
  obtain ⟨its, rv, hl, _⟩ := I.list hs
  rw [Vals.ref1 r]
  have hi := rv.ints
  have hz : its.toArray.size + 1 < scanBound := by
    rw [List.size_toArray, hi.length]
    unfold scanBound
    omega
  refine Lw.call_set_is (items := its.toArray) (ns := ns) (I.ok.hd hc) hl.isList (by simpa using hi) hz fun h' tk o ho hS hk => ?_
  exact ⟨.ref _, upd H s.heap.objs.size (setO X.prog X.w s.heap.objs.size ns), I.laid (t' := tk) hk (Nat.le_refl _) ⟨⟨o, ho, hS⟩, ⟨o, ho⟩, fun h1 h2 ⟨o, e1, e2⟩ k => ⟨o, k o e1, e2⟩⟩, rfl, q _ (I.hok.fresh (Nat.le_refl _))⟩
theorem Inv.redraw {pins : List (Addr × Obj)} {σ : St} {H : Hp} {s : Shared} (I : Inv X pins σ H s) (d' : Drawn) : Inv X pins σ H { s with drawn := d' } :=
  ⟨I.ok, I.os, I.bare, I.base, I.loc, I.cell, I.free, I.freeC, I.pin, I.hok, I.len⟩
def rSortedO (P : Program) (w : World) : List V → Hp → VK → Prop := fun vs H Q => ∃ (p : Addr) (ns : List Int), vs = [V.ref p] ∧ H p = some (setO P w p ns) ∧ ns.length < 64 ∧
  ∀ (ks : List Int) (q : Addr), ks.Pairwise (· < ·) → (∀ k, k ∈ ks ↔ k ∈ ns) → ks.length ≤ ns.length → H q = none → Q (.ref q) (upd H q (.lst (ks.map V.int)))
theorem cr_sortedO (hc : X.calm = true) : CallR X (.builtin "sorted") (rSortedO X.prog X.w) := by
  intro pins s σ H vs us Q I r h
  obtain ⟨p, ns, rfl, hp, h64, q⟩ := h
  rw [Vals.ref1 r]
  obtain ⟨⟨o, ho, hS⟩, _⟩ := I.hok p _ hp
  refine Lw.sorted_is (I.ok.hd hc) h64 ho hS fun h' tk d' y out ks e hk hy he hi hr hm hle => ?_
  have hlen : (ks.map V.int).length ≤ sizeLine := by
    rw [List.length_map]
    exact small64 (Nat.lt_of_le_of_lt hle h64)
  have I2 := (I.laid (a := y) (o := .lst (ks.map V.int)) (t' := tk) hk hy ⟨hlen, out.toList, e, vals_of_ints hi, he⟩).redraw d'
  exact ⟨.ref y, _, I2, rfl, q ks y hr hm hle (I.hok.fresh hy)⟩
/-! ### a method of the text's own, without arguments -/
def MtD (P : Program) (w : World) (K : PySem.W.Frag) (mg : Str → Option Value) (base : Heap) (C : Addr) (m : Str) (k : Nat) (ps : List Str) (sp : Sp) : Prop :=
  ∃ f fd, Meth K C m f ∧ Binds K fd ps [] ∧ FnOk P w K mg base CX0 k f fd ps sp
def tMt (C : Addr) (m : Str) (sp : Sp) (t : TE) : TE := fun σ H Q => t σ H fun x H1 => ∃ p dx fs, x = .ref p ∧ H1 p = some (.ins C dx fs) ∧ fs.lookup m = none ∧ sp [x] H1 Q E0
theorem pe_mth0 {C : Addr} {m : Str} {k : Nat} {ps : List Str} {sp : Sp} {pl : Sem Bool} (c : Cls X.K C) (D : MtD X.prog X.w X.K X.mg X.base C m k ps sp) (hr : Room k X.A) (ho : PE X o ta)
    (ht : eval (.Call (.Attribute o m apos) [] [] pos) X.env = (do
      let ov ← eval o X.env
      standAt apos.atName
      let (f, first) ← holding [ov] (getMethod ov m pl)
      callWith pos f first (backTo pos (starEach [] X.env)) (backToKw pos (keywordEach [] X.env))) := by rfl) :
    PE X (.Call (.Attribute o m apos) [] [] pos) (tMt C m sp ta) := by
  obtain ⟨f, fd, hm, hb, F⟩ := D
  have h := pe_meth0 (E := E0) ho c hm F hr hb (dvs := []) .nil pass0 ht
  intro pins s σ H Q I q
  refine h pins s σ H Q I ?_
  unfold tMeth
  unfold tMt at q
  exact q
end
/-! ### a comprehension whose elements are new things -/
theorem lc_walkR {J : It} {n : Nat} {ok : Hp → Prop} {item : Nat → V → Hp → Hp → Prop} {g : TG} {tt : TT} {te : TE} {vs : List Nat} {σ : St} {H1 : Hp} {Q : Addr → Hp → Prop} (wk : Walk J n ok item) (rel : Addr → Nat → V → Hp → Prop)
    (hst : ∀ D i v H H', (∀ b u, H b = some u → b ≠ D → H' b = some u) → rel D i v H → rel D i v H') (hok : ∀ H, Same H1 H → ok H) (hz : n ≤ sizeLine)
    (body : ∀ D i x H H', i < n → Same H1 H → H D ≠ none → item i x H H' → ∀ (Ny : V → Hp → Prop) (Nn : Hp → Prop), (∀ y H4, Same H H4 → rel D i y H4 → Ny y H4) →
      g x (wipe σ vs) H' fun σ2 H2 => wipe σ2 vs = wipe σ vs ∧ tt σ2 H2 fun b H3 => if b = true then te σ2 H3 Ny else Nn H3)
    (fin : ∀ D H' acc, Same H1 H' → H1 D = none → H' D = some (.lst acc) → acc.length = n → (∀ (i : Nat) v, acc[i]? = some v → rel D i v H') → Q D H') :
    ∀ D, H1 D = none → ∃ W : Nat → Nat → Hp → Prop, (∃ m, W 0 m (upd H1 D (.lst []))) ∧ ∀ i m H, W i m H →
      (J.stop i H ∧ Q D H) ∨ (J.go i H ∧ ∃ Nx : Hp → Prop, (∀ H', Nx H' → ∃ m', m' < m ∧ W (i + 1) m' H') ∧ ∀ x H', J.yld i H x H' → g x (wipe σ vs) H' fun σ2 H2 => wipe σ2 vs = wipe σ vs ∧ tt σ2 H2 fun b H3 =>
        if b = true then te σ2 H3 fun y H4 => AccP D y H4 Nx else Nx H3) := by
  intro D hD
  refine ⟨fun i m H => m = n - i ∧ i ≤ n ∧ Same H1 H ∧ ∃ acc, H D = some (.lst acc) ∧ acc.length = i ∧ ∀ (j : Nat) v, acc[j]? = some v → rel D j v H, ⟨n, by simp, Nat.zero_le _, Same.new hD, [], upd_same, rfl, fun j v h => by simp at h⟩, ?_⟩
  rintro i m H ⟨rfl, hi, sm, acc, hDH, hlen, hrel⟩
  have q := hok H sm
  by_cases hlt : i < n
  · refine .inr ⟨wk.go i H q hlt, fun H' => Same H1 H' ∧ ∃ acc, H' D = some (.lst acc) ∧ acc.length = i + 1 ∧ ∀ (j : Nat) v, acc[j]? = some v → rel D j v H', fun H' p' => ⟨n - (i + 1), by omega, rfl, hlt, p'⟩, fun x H' y => ?_⟩
    refine body D i x H H' hlt sm (by rw [hDH]; intro z; cases z) (wk.yld i H x H' q hlt y) _ _ (fun y H4 s4 e => ?_)
    refine ⟨_, s4 _ _ hDH, by rw [hlen]; exact Nat.lt_of_lt_of_le hlt hz, (sm.trans s4).upd hD, _, upd_same, by simp [hlen], fun j v hj => ?_⟩
    have keep : ∀ b u, H4 b = some u → b ≠ D → (upd H4 D (.lst (acc ++ [y]))) b = some u := fun b u hb hne => by rw [upd_ne hne]; exact hb
    refine hst D j v H4 _ keep ?_
    by_cases hjl : j < acc.length
    · rw [List.getElem?_append_left hjl] at hj
      exact hst D j v H H4 (fun b u hb _ => s4 _ _ hb) (hrel j v hj)
    · have hj2 : j = acc.length := by
        have := (List.getElem?_eq_some_iff.mp hj).1
        rw [List.length_append] at this
        simp at this
        omega
      subst hj2
      rw [List.getElem?_concat_length] at hj
      cases hj
      rw [hlen]
      exact e
  · have e : i = n := by omega
    subst e
    exact .inl ⟨wk.stop H q, fin D H acc sm hD hDH hlen hrel⟩
end L2

end

section
set_option Elab.async false
set_option linter.all false
set_option maxRecDepth 100000
namespace Lw
open PySem PySem.Spec PyProof.Rows L2
open Si51 (Law)
/-- what every law that calls lead to is like -/
structure Good (l : Law) : Prop where
  wf : Wf l
  one : 1 ≤ l.parts.length
  parts : l.parts.length ≤ 15
  defs : l.defs.length ≤ 20
  text : ∀ x ∈ l.parts, x.text.length ≤ 20
  body : ∀ d ∈ l.defs, d.body.length ≤ 20
  part : ∀ d ∈ l.defs, d.part < l.parts.length
  till : ∀ d ∈ l.defs, d.to_ ≠ some 0
/-- the classes -/
structure Cl where
  L : Addr
  P : Addr
  D : Addr
/-- where a law stands: the object, its dict, its two lists, its parts, its definitions -/
structure Rg where
  a : Addr
  dx : Addr
  pa : Addr
  da : Addr
  ps : List Addr
  ds : List Addr
  ban : List Addr := []
structure LawAt (c : Cl) (r : Rg) (H : Hp) (l : Law) : Prop where
  ins : H r.a = some (.ins c.L r.dx (lF r.pa r.da))
  parts : H r.pa = some (.lst (r.ps.map V.ref))
  defs : H r.da = some (.lst (r.ds.map V.ref))
  npd : r.pa ≠ r.da
  pl : r.ps.length = l.parts.length
  dl : r.ds.length = l.defs.length
  nps : r.ps.Nodup
  nds : r.ds.Nodup
  pat : ∀ (i : Nat) (p : Addr) (x : Si51.Part), r.ps[i]? = some p → l.parts[i]? = some x → ∃ dx w, H p = some (.ins c.P dx (pF x.up w)) ∧ H w = some (.lst (nsV x.text)) ∧ w ≠ r.pa ∧ w ≠ r.da ∧ w ∉ r.ban
  dat : ∀ (i : Nat) (p : Addr) (x : Si51.Def), r.ds[i]? = some p → l.defs[i]? = some x → ∃ dx b, H p = some (.ins c.D dx (dF x b)) ∧ H b = some (.lst (nsV x.body)) ∧ b ≠ r.pa ∧ b ≠ r.da ∧ b ∉ r.ban
  good : Good l
  bans : ∀ b ∈ r.ban, H b ≠ none
theorem LawAt.same {c : Cl} {r : Rg} {H H' : Hp} {l : Law} (L : LawAt c r H l) (s : Same H H') : LawAt c r H' l where
  ins := s _ _ L.ins
  parts := s _ _ L.parts
  defs := s _ _ L.defs
  npd := L.npd
  pl := L.pl
  dl := L.dl
  nps := L.nps
  nds := L.nds
  pat := fun i p x h1 h2 => let ⟨dx, w, a, b, d⟩ := L.pat i p x h1 h2; ⟨dx, w, s _ _ a, s _ _ b, d⟩
  dat := fun i p x h1 h2 => let ⟨dx, w, a, b, d⟩ := L.dat i p x h1 h2; ⟨dx, w, s _ _ a, s _ _ b, d⟩
  good := L.good
  bans := fun b hb z => by
    cases q : H b with
    | none => exact L.bans b hb q
    | some o => rw [s b o q] at z; cases z
/-- the i-th part, the i-th definition -/
inductive PartIs (c : Cl) (r : Rg) (H : Hp) (i : Nat) (x : Si51.Part) : Prop
  | mk (p dx w : Addr) (e1 : (r.ps.map V.ref)[i]? = some (.ref p)) (e2 : r.ps[i]? = some p) (e3 : H p = some (.ins c.P dx (pF x.up w))) (e4 : H w = some (.lst (nsV x.text))) : PartIs c r H i x
inductive DefIs (c : Cl) (r : Rg) (H : Hp) (i : Nat) (x : Si51.Def) : Prop
  | mk (p dx b : Addr) (e1 : (r.ds.map V.ref)[i]? = some (.ref p)) (e2 : r.ds[i]? = some p) (e3 : H p = some (.ins c.D dx (dF x b))) (e4 : H b = some (.lst (nsV x.body))) : DefIs c r H i x
theorem LawAt.partAt {c : Cl} {r : Rg} {H : Hp} {l : Law} (L : LawAt c r H l) {i : Nat} {x : Si51.Part} (h : l.parts[i]? = some x) : PartIs c r H i x := by
  have hi : i < r.ps.length := by rw [L.pl]; exact (List.getElem?_eq_some_iff.mp h).1
  have e := List.getElem?_eq_getElem hi
  obtain ⟨dx, w, h1, h2, _⟩ := L.pat i _ x e h
  exact ⟨_, dx, w, by rw [List.getElem?_map, e]; rfl, e, h1, h2⟩
theorem LawAt.defAt {c : Cl} {r : Rg} {H : Hp} {l : Law} (L : LawAt c r H l) {i : Nat} {x : Si51.Def} (h : l.defs[i]? = some x) : DefIs c r H i x := by
  have hi : i < r.ds.length := by rw [L.dl]; exact (List.getElem?_eq_some_iff.mp h).1
  have e := List.getElem?_eq_getElem hi
  obtain ⟨dx, w, h1, h2, _⟩ := L.dat i _ x e h
  exact ⟨_, dx, w, by rw [List.getElem?_map, e]; rfl, e, h1, h2⟩
/-! ### what the top has written -/
structure Txt (K : PySem.W.Frag) (mg : Str → Option Value) (c : Cl) : Prop where
  clL : Cls K c.L
  clP : Cls K c.P
  clD : Cls K c.D
  nL_parts : NoAttr K c.L "parts"
  nL_defs : NoAttr K c.L "definitions"
  nP_above : NoAttr K c.P "above"
  nP_words : NoAttr K c.P "words"
  nD_part : NoAttr K c.D "part"
  nD_word : NoAttr K c.D "word"
  nD_since : NoAttr K c.D "since"
  nD_until : NoAttr K c.D "until"
  nD_body : NoAttr K c.D "body"
  b_len : mg "len" = none
  b_any : mg "any" = none
  b_all : mg "all" = none
  b_enumerate : mg "enumerate" = none
  b_zip : mg "zip" = none
  b_range : mg "range" = none
  b_set : mg "set" = none
  b_sorted : mg "sorted" = none
  g_WITHOUT_END : GI mg "WITHOUT_END" 0
  g_MOST_SPELLED : GI mg "MOST_SPELLED" 1000
  g_WRONG : GI mg "WRONG" (-1)
  g_NOT_THERE : GI mg "NOT_THERE" (-2)
  g_TAKEN : GI mg "TAKEN" (-3)
  g_TOO_MUCH : GI mg "TOO_MUCH" (-5)
  g_STANDS_NOWHERE : GI mg "STANDS_NOWHERE" (-6)
  g_IN_A_CIRCLE : GI mg "IN_A_CIRCLE" (-7)
  g_MOST_WORDS : GI mg "MOST_WORDS" 20
  g_LAST_WORD : GI mg "LAST_WORD" 99999
  g_LAST_DAY : GI mg "LAST_DAY" 99999
  g_MOST_PARTS : GI mg "MOST_PARTS" 15
  g_MOST_DEFINITIONS : GI mg "MOST_DEFINITIONS" 20
theorem lwb_set : bootBuiltins "set" = some (.type "set") := by decide +kernel
theorem lwb_sorted : bootBuiltins "sorted" = some (.builtin "sorted") := by decide +kernel
def top (i : Nat) : Stmt := PySem.Challenge.pw_lawwords_s01_answers.main.body.getD i (.Pass ⟨0, 0, 0, 0⟩)
end Lw

end

section
set_option Elab.async false
set_option linter.all false
set_option maxRecDepth 100000
namespace Lw
open PySem PySem.Spec PyProof.Rows L2
open Si51 (Law)
section
variable {P : Program} {w : World} {K : PySem.W.Frag} {mg : Str → Option Value} {base : Heap} {c : Cl}
/-! ### in_force -/
abbrev s_in_force : Stmt := top 2
theorem sc_in_force : FnScope ["definition", "day"] ["definition", "day"] (defScope s_in_force) := ⟨rfl, rfl, rfl, by decide +kernel, rfl, by decide +kernel, by decide +kernel⟩
inductive Sp_in_force (c : Cl) (vs : List V) (H : Hp) (Q : VK) : Prop
  | mk (p dx b : Addr) (d : Si51.Def) (day : Nat) (h0 : vs = [.ref p, nV day]) (h1 : H p = some (.ins c.D dx (dF d b))) (h2 : d.to_ ≠ some 0) (h3 : Q (.bl (Si51.inForce d day)) H) : Sp_in_force c vs H Q
def sp_in_force (c : Cl) : Sp := fun vs H Q _ => Sp_in_force c vs H Q
theorem ok_in_force {f : Addr} {fd : FuncData} (F : Fun K "in_force" "in_force" s_in_force f fd) (T : Txt K mg c) : FnOk P w K mg base CX0 1 f fd ["definition", "day"] (sp_in_force c) := by
  refine F.ok sc_in_force (fun vs H Q E h => ?_) (fun cdv A outer s H vs Q E hr h => ?_)
  · obtain ⟨p, dx, b, d, day, rfl, _⟩ := h
    rfl
  · obtain ⟨p, dx, b, d, day, rfl, hp, ht, k⟩ := h
    refine ⟨_, (pss_cons (ps_if (pt_cmp (pc_lt (pv 1) (pe_fld (pv 0) rfl)))
      (pss_one (ps_ret pe_bl))
      pss_nil)
      (pss_one (ps_ret (pe_or (pe_cmp (pc_eqI (pe_fld (pv 0) rfl) (pe_gint rfl T.g_WITHOUT_END))) (pe_one (pe_cmp (pc_lt (pv 1) (pe_fld (pv 0) rfl)))))))), ?_⟩
    try dsimp only [cx_K]
    refine ⟨_, rfl, _, rfl, p, c.D, dx, _, _, rfl, hp, T.clD, T.nD_since, dF_since, _, _, rfl, rfl, _, rfl, ?_⟩
    refine ite2 (fun h1 => ?_) (fun h1 => ?_)
    · show Q (.bl false) H
      have : ¬ d.from_ ≤ day := by have := of_decide_eq_true h1; omega
      have e : Si51.inForce d day = false := by unfold Si51.inForce; rw [decide_eq_false this]; rfl
      rw [← e]
      exact k
    · have h1 : d.from_ ≤ day := by
        have : ¬ ((day : Int) < (d.from_ : Int)) := fun z => h1 (decide_eq_true z)
        omega
      refine ⟨_, rfl, p, c.D, dx, _, _, rfl, hp, T.clD, T.nD_until, dF_until, _, _, rfl, rfl, _, rfl, ?_⟩
      have e : Si51.inForce d day = (match d.to_ with | some t => decide (day < t) | none => true) := by unfold Si51.inForce; rw [decide_eq_true h1]; rfl
      rw [e] at k
      cases ht' : d.to_ with
      | none =>
        rw [ht'] at k
        exact iteT k
      | some t =>
        rw [ht'] at k ht
        have t0 : t ≠ 0 := fun z => ht (by rw [z])
        refine ite2 (fun z => absurd (of_decide_eq_true z) (by show ¬ ((t : Int) = 0); omega)) (fun z => ?_)
        refine ⟨_, rfl, _, rfl, p, c.D, dx, _, _, rfl, hp, T.clD, T.nD_until, dF_until, _, _, rfl, rfl, ?_⟩
        show Q (.bl (decide ((day : Int) < ((d.to_.getD 0 : Nat) : Int)))) H
        rw [ht', dlt]
        exact k
/-! ### numbers_in_force -/
abbrev s_numbers_in_force : Stmt := top 3
theorem sc_numbers_in_force : FnScope ["law", "day", "number", "definition"] ["law", "day"] (defScope s_numbers_in_force) := ⟨rfl, rfl, rfl, by decide +kernel, rfl, by decide +kernel, by decide +kernel⟩
theorem blk_numbers_in_force_1 : BlkOk ["law", "day", "number", "definition"] (defScope s_numbers_in_force) (lcS (subE (stAt s_numbers_in_force 0) 0)) [("number", 2), ("definition", 3)] := ⟨rfl, by decide +kernel, by decide +kernel, by decide +kernel, by decide +kernel⟩
inductive Sp_numbers_in_force (c : Cl) (vs : List V) (H : Hp) (Q : VK) : Prop
  | mk (r : Rg) (l : Law) (day : Nat) (h0 : vs = [.ref r.a, nV day]) (h1 : LawAt c r H l) (h2 : ∀ (H' : Hp) (D : Addr), Same H H' → H D = none → H' D = some (.lst (nsV (force l day))) → Q (.ref D) H') : Sp_numbers_in_force c vs H Q
def sp_numbers_in_force (c : Cl) : Sp := fun vs H Q _ => Sp_numbers_in_force c vs H Q
theorem ok_numbers_in_force {f : Addr} {fd : FuncData} (F : Fun K "numbers_in_force" "numbers_in_force" s_numbers_in_force f fd) (T : Txt K mg c) (D_in_force : FnD P w K mg base "in_force" 1 ["definition", "day"] (sp_in_force c)) :
    FnOk P w K mg base CX0 2 f fd ["law", "day"] (sp_numbers_in_force c) := by
  refine F.ok sc_numbers_in_force (fun vs H Q E h => ?_) (fun cdv A outer s H vs Q E hr h => ?_)
  · obtain ⟨r, l, day, rfl, _⟩ := h
    rfl
  · obtain ⟨r, l, day, rfl, L, k⟩ := h
    refine ⟨_, (pss_one (ps_ret (pe_lc (own := [("number", 2), ("definition", 3)]) rfl sc_numbers_in_force.nd (pi_enum (by rfl) T.b_enumerate (pa_cons (pe_fld (pv 0) rfl) pa_nil)) blk_numbers_in_force_1 (fun _ _ _ _ _ => by exact (pg_tupK K (n := 2) rfl (pgs_cons (pg_name (i := 2) sc_numbers_in_force.nd rfl (Or.inl rfl)) (pgs_cons (pg_name (i := 3) sc_numbers_in_force.nd rfl (Or.inl rfl)) pgs_nil)))) (fun _ _ _ _ _ => by exact (pts_one (pt_val (pe_fn D_in_force (hr.mono (by decide)) rfl (pa_cons (pv 3) (pa_cons (pv 1) pa_nil)))))) (fun _ _ _ _ _ => by exact (pv 2))))), ?_⟩
    try dsimp only [cx_K]
    refine ⟨_, rfl, r.a, c.L, r.dx, _, _, rfl, L.ins, T.clL, T.nL_defs, lF_defs, r.da, _, rfl, SqL.of L.defs, ?_⟩
    refine lc_walk (walk_enum K r.da (r.ds.map V.ref)) (fun i => if Si51.inForce (Si51.def_ l i) day = true then some (nV i) else none) (fun H' s => SqL.of (s _ _ L.defs)) ?_ ?_ ?_
    · rw [List.length_map, L.dl]
      exact Nat.le_of_lt (small1000 (Nat.le_trans L.good.defs (by decide)))
    · rintro i x H1 H2 hi sm ⟨tt, y, rfl, hT, rfl, hy⟩ Ny Nn h1 h2
      have hi' : i < l.defs.length := by rw [List.length_map, L.dl] at hi; exact hi
      obtain ⟨p, dx, b, e1, e2, e3, e4⟩ := (L.same sm).defAt (List.getElem?_eq_getElem hi')
      rw [e1] at hy
      obtain rfl : V.ref p = y := Option.some.inj hy
      have s2 : Same H1 (upd H1 tt (.tup [.int (i : Nat), .ref p])) := Same.new hT
      have ed : Si51.def_ l i = l.defs[i] := by unfold Si51.def_; rw [List.getD_eq_getElem?_getD, List.getElem?_eq_getElem hi']; rfl
      refine ⟨tt, _, rfl, SqT.of upd_same, rfl, _, _, rfl, _, _, rfl, rfl, rfl, _, rfl, _, rfl, p, dx, b, l.defs[i], day, rfl, s2 _ _ e3, L.good.till _ (List.getElem_mem hi'), _, rfl, ?_⟩
      rw [← ed]
      cases hf : Si51.inForce (Si51.def_ l i) day with
      | true => exact iteT ⟨_, rfl, h1 _ _ s2 (by rw [if_pos hf]; rfl)⟩
      | false => exact iteF (h2 _ s2 (by rw [if_neg (by rw [hf]; decide)]))
    · intro D H' s hD e
      refine k H' D s hD ?_
      rw [e]
      refine congrArg (fun q => some (HO.lst q)) ?_
      rw [List.length_map, L.dl]
      unfold nsV force
      rw [fm_filter]
end
end Lw

end

section
set_option Elab.async false
set_option linter.all false
set_option maxRecDepth 100000
namespace Lw
open PySem PySem.Spec PyProof.Rows L2
open Si51 (Law)
/-- a place's key -/
def pwK (p w : Nat) : List Key := [Sum.inl (p : Int), Sum.inl (w : Int)]
theorem pwK_inj {p w q v : Nat} (h : pwK p w = pwK q v) : p = q ∧ w = v := by
  unfold pwK at h
  injection h with h1 h2
  injection h2 with h2 _
  have e1 := Sum.inl.inj h1
  have e2 := Sum.inl.inj h2
  exact ⟨by omega, by omega⟩
/-- the dict of the definitions that count for the parts themselves -/
def CountAt (H : Hp) (D : Addr) (l : Law) (day : Nat) : Prop := ∃ kvs, H D = some (.dT kvs) ∧ ∀ p w : Nat, valV kvs (pwK p w) = (Si51.ownDef l p w day).map nV
theorem CountAt.same {H H' : Hp} {D : Addr} {l : Law} {day : Nat} (h : CountAt H D l day) (s : Same H H') : CountAt H' D l day := let ⟨k, a, b⟩ := h; ⟨k, s _ _ a, b⟩
inductive NsG (l : List Nat) (i : Nat) (x : V) : Prop
  | mk (n : Nat) (e : l[i]? = some n) (ex : x = nV n) : NsG l i x
theorem nsV_get {l : List Nat} {i : Nat} {x : V} (h : (nsV l)[i]? = some x) : NsG l i x := by
  unfold nsV at h
  rw [List.getElem?_map] at h
  cases e : l[i]? with
  | none => rw [e] at h; cases h
  | some n => rw [e] at h; exact ⟨n, e, (Option.some.inj h).symm⟩
theorem nsV_len (l : List Nat) : (nsV l).length = l.length := List.length_map ..
theorem take_succ_get {α : Type} {l : List α} {i : Nat} {x : α} (h : l[i]? = some x) : l.take (i + 1) = l.take i ++ [x] := by
  rw [List.take_succ, h]
  rfl
section
variable {P : Program} {w : World} {K : PySem.W.Frag} {mg : Str → Option Value} {base : Heap} {c : Cl}
/-! ### counting_on -/
abbrev s_counting_on : Stmt := top 4
theorem sc_counting_on : FnScope ["law", "day", "counting", "number", "definition", "place", "rival"] ["law", "day"] (defScope s_counting_on) := ⟨rfl, rfl, rfl, by decide +kernel, rfl, by decide +kernel, by decide +kernel⟩
inductive Sp_counting_on (c : Cl) (vs : List V) (H : Hp) (Q : VK) : Prop
  | mk (r : Rg) (l : Law) (day : Nat) (h0 : vs = [.ref r.a, nV day]) (h1 : LawAt c r H l) (h2 : ∀ (H' : Hp) (D : Addr), Same H H' → H D = none → CountAt H' D l day → Q (.ref D) H') : Sp_counting_on c vs H Q
def sp_counting_on (c : Cl) : Sp := fun vs H Q _ => Sp_counting_on c vs H Q
inductive CntW (r : Rg) (l : Law) (day : Nat) (D nums : Addr) (H : Hp) (i : Nat) (σ : L2.St) (H' : Hp) : Prop
  | mk (v3 v4 v5 v6 : Option V) (kvs : List (List Key × V)) (e : σ = [some (.ref r.a), some (nV day), some (.ref D), v3, v4, v5, v6]) (s : Same H H') (hD : H' D = some (.dT kvs)) (hN : H' nums = some (.lst (nsV (force l day))))
    (hl : kvs.length ≤ i) (hv : ∀ p w : Nat, valV kvs (pwK p w) = (best l ((force l day).take i) p w).map nV) : CntW r l day D nums H i σ H'
theorem ok_counting_on {f : Addr} {fd : FuncData} (F : Fun K "counting_on" "counting_on" s_counting_on f fd) (T : Txt K mg c) (D_numbers_in_force : FnD P w K mg base "numbers_in_force" 2 ["law", "day"] (sp_numbers_in_force c)) :
    FnOk P w K mg base CX0 3 f fd ["law", "day"] (sp_counting_on c) := by
  refine F.ok sc_counting_on (fun vs H Q E h => ?_) (fun cdv A outer s H vs Q E hr h => ?_)
  · obtain ⟨r, l, day, rfl, _⟩ := h
    rfl
  · obtain ⟨r, l, day, rfl, L, k⟩ := h
    have hu := hu_of hr
    refine ⟨_, (pss_cons (ps_set (i := 2) sc_counting_on.nd rfl (Or.inl rfl) pe_dnewT)
      (pss_cons (ps_for PassesOwn.never rfl (pi_list (pe_fn D_numbers_in_force (hr.mono (by decide)) rfl (pa_cons (pv 0) (pa_cons (pv 1) pa_nil)))) (pg_name (i := 3) sc_counting_on.nd rfl (Or.inl rfl))
      (pss_cons (ps_set (i := 4) sc_counting_on.nd rfl (Or.inl rfl) (pe_ix ix_list (pe_fld (pv 0) rfl) (pv 3) (fun _ _ => rfl)))
        (pss_cons (ps_set (i := 5) sc_counting_on.nd rfl (Or.inl rfl) (pe_tup (pa_cons (pe_fld (pv 4) rfl) (pa_cons (pe_fld (pv 4) rfl) pa_nil))))
        (pss_cons (ps_set (i := 6) sc_counting_on.nd rfl (Or.inl rfl) (pe_dget1 hu (pv 2) (pv 5) ⟨rfl, rfl, rfl, rfl⟩))
        (pss_one (ps_if (pw_or (pt_cmp (pc_isN (pv 6))) (pw_or1 (pt_cmp (pc_le (pe_fld (pe_ix ix_list (pe_fld (pv 0) rfl) (pv 6) (fun _ _ => rfl)) rfl) (pe_fld (pv 4) rfl))))).pt
        (pss_one (ps_dput hu (pv 2) (pv 5) (pv 3) rfl))
        pss_nil))))))
      (pss_one (ps_ret (pv 2))))), ?_⟩
    try dsimp only [cx_K]
    intro D hD
    have s1 : Same H (upd H D (.dT [])) := Same.new hD
    refine ⟨_, rfl, _, rfl, r, l, day, rfl, L.same s1, fun H2 nums s2 hn hnums => ⟨nums, rfl, ⟨_, SqL.of hnums⟩, ?_⟩⟩
    have hfl : (force l day).length ≤ 20 := by
      have := List.length_filter_le (fun d => Si51.inForce (Si51.def_ l d) day) (List.range l.defs.length)
      rw [List.length_range] at this
      exact Nat.le_trans this L.good.defs
    refine for_walk (walk_list K nums (nsV (force l day))) (fun i σ H' => CntW r l day D nums H i σ H')
      ⟨none, none, none, none, [], rfl, s1.trans s2, s2 _ _ upd_same, hnums, Nat.le_refl _, fun _ _ => rfl⟩ (fun i σ H' _ ⟨_, _, _, _, _, _, _, _, h, _, _⟩ => SqL.of h) ?_ ?_
    · rintro i x σ H1 H1' hi ⟨v3, v4, v5, v6, kvs, rfl, sm, hDk, hN, hlen, hval⟩ ⟨rfl, hx⟩
      obtain ⟨d, hd, rfl⟩ := nsV_get hx
      have hdm := mem_force.mp (List.mem_of_getElem? hd)
      have L1 := L.same sm
      obtain ⟨p, dx, b, e1, e2, e3, e4⟩ := L1.defAt (def_get hdm.1)
      refine ⟨_, rfl, r.a, c.L, r.dx, _, _, rfl, L1.ins, T.clL, T.nL_defs, lF_defs, _, rfl, r.da, _, _, _, rfl, rfl, SqL.of L1.defs, at_nat e1, ?_⟩
      refine ⟨_, rfl, p, c.D, dx, _, _, rfl, e3, T.clD, T.nD_part, dF_part, _, rfl, p, c.D, dx, _, _, rfl, e3, T.clD, T.nD_word, dF_word, (by show 2 ≤ sizeLine; decide), fun tp htp => ?_⟩
      have s3 : Same H1' (upd H1' tp (.tup [nV (Si51.def_ l d).part, nV (Si51.def_ l d).word])) := Same.new htp
      refine ⟨_, rfl, D, rfl, .inr ⟨_, .inl (s3 _ _ hDk)⟩, _, rfl, _, DGet.t (k := pwK (Si51.def_ l d).part (Si51.def_ l d).word) (s3 _ _ hDk) upd_same, ?_⟩
      have hDT : tp ≠ D := fun z => by rw [z, hDk] at htp; cases htp
      have hND : nums ≠ D := ne_of hN hDk (by intro z; cases z)
      have hsucc : (force l day).take (i + 1) = (force l day).take i ++ [d] := take_succ_get hd
      -- the store, and its end
      have put : (nextBest l (Si51.def_ l d).part (Si51.def_ l d).word (best l ((force l day).take i) (Si51.def_ l d).part (Si51.def_ l d).word) d = some d) → ∀ v6 : Option V,
          CntW r l day D nums H (i + 1) [some (V.ref r.a), some (nV day), some (.ref D), some (nV d), some (.ref p), some (.ref tp), v6] (upd (upd H1' tp (.tup [nV (Si51.def_ l d).part, nV (Si51.def_ l d).word])) D (.dT (putK kvs (pwK (Si51.def_ l d).part (Si51.def_ l d).word) (nV d)))) := fun hb v6 => by
        refine ⟨_, _, _, _, _, rfl, (sm.trans s3).upd hD, upd_same, ?_, Nat.le_trans (length_putK _ _ _) (Nat.succ_le_succ hlen), fun q v => ?_⟩
        · rw [upd_ne hND]
          exact s3 _ _ hN
        · rw [valV_put, hval, hsucc]
          unfold best
          rw [List.foldl_append, List.foldl_cons, List.foldl_nil]
          by_cases he : pwK q v = pwK (Si51.def_ l d).part (Si51.def_ l d).word
          · obtain ⟨rfl, rfl⟩ := pwK_inj he
            rw [if_pos rfl]
            unfold best at hb
            rw [hb]
            rfl
          · rw [if_neg he]
            unfold nextBest
            rw [if_neg (fun z => he (by rw [z.1, z.2]))]
      cases hb : best l ((force l day).take i) (Si51.def_ l d).part (Si51.def_ l d).word with
      | none =>
        have ev : valV kvs (pwK (Si51.def_ l d).part (Si51.def_ l d).word) = none := by rw [hval, hb]; rfl
        refine ⟨_, rfl, _, rfl, ?_⟩
        rw [ev]
        refine iteT (iteT ?_)
        refine ⟨_, rfl, _, rfl, _, rfl, D, _, rfl, DPut.t (k := pwK (Si51.def_ l d).part (Si51.def_ l d).word) (s3 _ _ hDk) upd_same (Nat.lt_of_le_of_lt hlen (small1000 (by rw [nsV_len] at hi; exact Nat.le_trans (Nat.le_of_lt hi) (Nat.le_trans hfl (by decide))))), ?_⟩
        exact put (by rw [hb]; unfold nextBest; rw [if_pos ⟨rfl, rfl⟩]) _
      | some e =>
        have ev : valV kvs (pwK (Si51.def_ l d).part (Si51.def_ l d).word) = some (nV e) := by rw [hval, hb]; rfl
        have hem : e ∈ force l day := by
          have h1 := best_mem _ _ _ _ _ (show ((force l day).take i).foldl (nextBest l _ _) none = some e from hb)
          rcases h1 with z | z
          · cases z
          · exact List.mem_of_mem_take z
        have hem2 := mem_force.mp hem
        obtain ⟨p2, dx2, b2, f1, f2, f3, f4⟩ := (L1.same s3).defAt (def_get hem2.1)
        refine ⟨_, rfl, _, rfl, ?_⟩
        rw [ev]
        refine iteF ?_
        refine ⟨_, rfl, r.a, c.L, r.dx, _, _, rfl, (L1.same s3).ins, T.clL, T.nL_defs, lF_defs, _, rfl, r.da, _, _, _, rfl, rfl, SqL.of (L1.same s3).defs, at_nat f1, p2, c.D, dx2, _, _, rfl, f3, T.clD, T.nD_since, dF_since, _, rfl, p, c.D, dx, _, _, rfl, s3 _ _ e3, T.clD, T.nD_since, dF_since, _, _, rfl, rfl, _, rfl, ?_⟩
        refine ite2 (fun hle => ?_) (fun hle => ?_)
        · have hle : (Si51.def_ l e).from_ ≤ (Si51.def_ l d).from_ := Int.ofNat_le.mp (of_decide_eq_true hle)
          refine ⟨_, rfl, _, rfl, _, rfl, D, _, rfl, DPut.t (k := pwK (Si51.def_ l d).part (Si51.def_ l d).word) (s3 _ _ hDk) upd_same (Nat.lt_of_le_of_lt hlen (small1000 (by rw [nsV_len] at hi; exact Nat.le_trans (Nat.le_of_lt hi) (Nat.le_trans hfl (by decide))))), ?_⟩
          exact put (by rw [hb]; unfold nextBest; rw [if_pos ⟨rfl, rfl⟩]; dsimp only; rw [if_neg (Nat.not_lt_of_le hle)]) _
        · have hlt : (Si51.def_ l d).from_ < (Si51.def_ l e).from_ := by
            have : ¬ (((Si51.def_ l e).from_ : Int) ≤ ((Si51.def_ l d).from_ : Int)) := fun z => hle (decide_eq_true z)
            exact Nat.lt_of_not_le fun z => this (Int.ofNat_le.mpr z)
          refine ⟨_, _, _, _, kvs, rfl, sm.trans s3, s3 _ _ hDk, s3 _ _ hN, Nat.le_succ_of_le hlen, fun q v => ?_⟩
          rw [hval, hsucc]
          unfold best
          rw [List.foldl_append, List.foldl_cons, List.foldl_nil]
          unfold nextBest
          split
          · rename_i he
            obtain ⟨rfl, rfl⟩ := he
            unfold best at hb
            unfold nextBest at hb
            rw [hb]
            dsimp only
            rw [if_pos hlt]
          · rfl
    · rintro σ H1 ⟨v3, v4, v5, v6, kvs, rfl, sm, hDk, hN, hlen, hval⟩
      refine ⟨_, rfl, k H1 D sm hD ⟨kvs, hDk, fun p w => ?_⟩⟩
      rw [hval, nsV_len, List.take_length, best_own]
/-! ### definition_at -/
abbrev s_definition_at : Stmt := top 5
theorem sc_definition_at : FnScope ["law", "counting", "part", "word", "here", "number"] ["law", "counting", "part", "word"] (defScope s_definition_at) := ⟨rfl, rfl, rfl, by decide +kernel, rfl, by decide +kernel, by decide +kernel⟩
inductive Sp_definition_at (c : Cl) (vs : List V) (H : Hp) (Q : VK) : Prop
  | mk (r : Rg) (l : Law) (day : Nat) (D : Addr) (p w : Nat) (h0 : vs = [.ref r.a, .ref D, nV p, nV w]) (h1 : LawAt c r H l) (h2 : CountAt H D l day) (h3 : p < l.parts.length) (h4 : ∀ (H' : Hp), Same H H' → Q (upV (Si51.means l p w day)) H') : Sp_definition_at c vs H Q
def sp_definition_at (c : Cl) : Sp := fun vs H Q _ => Sp_definition_at c vs H Q
inductive DatW (r : Rg) (l : Law) (day : Nat) (D : Addr) (p w' : Nat) (H : Hp) (σ : L2.St) (H' : Hp) : Prop
  | mk (o : Option Nat) (v5 : Option V) (e : σ = [some (.ref r.a), some (.ref D), some (nV p), some (nV w'), some (upV o), v5]) (s : Same H H') (h0 : o = none → Si51.means l p w' day = none) (h1 : ∀ q, o = some q → q < l.parts.length ∧ Si51.means l p w' day = Si51.means l q w' day) : DatW r l day D p w' H σ H'
theorem ok_definition_at {f : Addr} {fd : FuncData} (F : Fun K "definition_at" "definition_at" s_definition_at f fd) (T : Txt K mg c) :
    FnOk P w K mg base CX0 1 f fd ["law", "counting", "part", "word"] (sp_definition_at c) := by
  refine F.ok sc_definition_at (fun vs H Q E h => ?_) (fun cdv A outer s H vs Q E hr h => ?_)
  · obtain ⟨r, l, day, D, p, w', rfl, _⟩ := h
    rfl
  · obtain ⟨r, l, day, D, p, w', rfl, L, ⟨kvs, hDk, hval⟩, hp, k⟩ := h
    have hu := hu_of hr
    refine ⟨_, (pss_cons (ps_set (i := 4) sc_definition_at.nd rfl (Or.inl rfl) (pv 2))
      (pss_cons (ps_while PassesOwn.never (pt_cmp (pc_notN (pv 4)))
      (pss_cons (ps_set (i := 5) sc_definition_at.nd rfl (Or.inl rfl) (pe_dget1 hu (pv 1) (pe_tup (pa_cons (pv 4) (pa_cons (pv 3) pa_nil))) ⟨rfl, rfl, rfl, rfl⟩))
        (pss_cons (ps_if (pt_cmp (pc_notN (pv 5)))
        (pss_one (ps_ret (pv 5)))
        pss_nil)
        (pss_one (ps_set (i := 4) sc_definition_at.nd rfl (Or.inl rfl) (pe_fld (pe_ix ix_list (pe_fld (pv 0) rfl) (pv 4) (fun _ _ => rfl)) rfl))))))
      (pss_one (ps_ret pe_non)))), ?_⟩
    try dsimp only [cx_K]
    refine ⟨_, rfl, ?_⟩
    refine while_by (fun σ H' => DatW r l day D p w' H σ H')
      (fun (σ : L2.St) (_ : Hp) => match σ[4]? with
        | some (some (V.int q)) => q.toNat + 1
        | _ => 0) ⟨some p, none, rfl, Same.refl _, fun z => (by cases z), fun q z => (by cases z; exact ⟨hp, rfl⟩)⟩ ?_ ?_
    · rintro σ H1 ⟨o, v5, rfl, sm, h0, h1⟩
      have L1 := L.same sm
      refine ⟨_, rfl, _, rfl, ?_⟩
      cases o with
      | none =>
        refine iteF ?_
        have := k H1 sm
        rw [h0 rfl] at this
        exact this
      | some q =>
        refine iteT ?_
        obtain ⟨hq, hm⟩ := h1 q rfl
        obtain ⟨x, hx⟩ : ∃ x, l.parts[q]? = some x := ⟨_, List.getElem?_eq_getElem hq⟩
        rw [means_step L.good.wf hx] at hm
        refine ⟨_, rfl, D, rfl, .inr ⟨_, .inl (sm _ _ hDk)⟩, _, rfl, _, rfl, (by show 2 ≤ sizeLine; decide), fun tp htp => ?_⟩
        have s3 : Same H1 (upd H1 tp (.tup [nV q, nV w'])) := Same.new htp
        refine ⟨_, DGet.t (k := pwK q w') (s3 _ _ (sm _ _ hDk)) upd_same, ?_⟩
        rw [hval]
        cases ho : Si51.ownDef l q w' day with
        | some d =>
          rw [ho] at hm
          refine ⟨_, rfl, _, rfl, iteT ⟨_, rfl, ?_⟩⟩
          have := k _ (sm.trans s3)
          rw [hm] at this
          exact this
        | none =>
          rw [ho] at hm
          obtain ⟨pp, dx, b, e1, e2, e3, e4⟩ := (L1.same s3).partAt hx
          refine ⟨_, rfl, _, rfl, iteF ?_⟩
          refine ⟨_, rfl, r.a, c.L, r.dx, _, _, rfl, (L1.same s3).ins, T.clL, T.nL_parts, lF_parts, _, rfl, r.pa, _, _, _, rfl, rfl, SqL.of (L1.same s3).parts, at_nat e1, pp, c.P, dx, _, _, rfl, e3, T.clP, T.nP_above, pF_above, ?_⟩
          cases hup : x.up with
          | none =>
            rw [hup] at hm
            refine ⟨⟨none, _, rfl, sm.trans s3, fun _ => hm, fun q z => (by cases z)⟩, Nat.succ_pos _⟩
          | some u =>
            rw [hup] at hm
            have hlt := L.good.wf q x u hx hup
            refine ⟨⟨some u, _, rfl, sm.trans s3, fun z => (by cases z), fun q' z => ?_⟩, ?_⟩
            · cases z
              exact ⟨by omega, hm⟩
            · show (u : Int).toNat + 1 < (q : Int).toNat + 1
              omega
    · intro σ H1 Q1 Q2 hQ h
      obtain ⟨v, e, b, e2, h⟩ := h
      exact ⟨v, e, b, e2, hQ _ _ h⟩
/-! ### definitions_at -/
abbrev s_definitions_at : Stmt := top 6
theorem sc_definitions_at : FnScope ["law", "counting", "part", "words", "word"] ["law", "counting", "part", "words"] (defScope s_definitions_at) := ⟨rfl, rfl, rfl, by decide +kernel, rfl, by decide +kernel, by decide +kernel⟩
theorem blk_definitions_at_1 : BlkOk ["law", "counting", "part", "words", "word"] (defScope s_definitions_at) (lcS (subE (stAt s_definitions_at 0) 0)) [("word", 4)] := ⟨rfl, by decide +kernel, by decide +kernel, by decide +kernel, by decide +kernel⟩
/-- what the words of a text lead to -/
def osOf (l : Law) (day p : Nat) (t : List Nat) : List (Option Nat) := t.map fun w => Si51.means l p w day
def upsV (os : List (Option Nat)) : List V := os.map upV
inductive Sp_definitions_at (c : Cl) (vs : List V) (H : Hp) (Q : VK) : Prop
  | mk (r : Rg) (l : Law) (day : Nat) (D : Addr) (p : Nat) (ws : Addr) (t : List Nat) (h0 : vs = [.ref r.a, .ref D, nV p, .ref ws]) (h1 : LawAt c r H l) (h2 : CountAt H D l day) (h3 : p < l.parts.length) (h4 : H ws = some (.lst (nsV t))) (h5 : t.length ≤ 20) (h6 : ∀ (H' : Hp) (B : Addr), Same H H' → H B = none → H' B = some (.lst (upsV (osOf l day p t))) → Q (.ref B) H') : Sp_definitions_at c vs H Q
def sp_definitions_at (c : Cl) : Sp := fun vs H Q _ => Sp_definitions_at c vs H Q
theorem ok_definitions_at {f : Addr} {fd : FuncData} (F : Fun K "definitions_at" "definitions_at" s_definitions_at f fd) (T : Txt K mg c) (D_definition_at : FnD P w K mg base "definition_at" 1 ["law", "counting", "part", "word"] (sp_definition_at c)) :
    FnOk P w K mg base CX0 2 f fd ["law", "counting", "part", "words"] (sp_definitions_at c) := by
  refine F.ok sc_definitions_at (fun vs H Q E h => ?_) (fun cdv A outer s H vs Q E hr h => ?_)
  · obtain ⟨r, l, day, D, p, ws, t, rfl, _⟩ := h
    rfl
  · obtain ⟨r, l, day, D, p, ws, t, rfl, L, hC, hp, hw, ht, k⟩ := h
    refine ⟨_, (pss_one (ps_ret (pe_lc (own := [("word", 4)]) rfl sc_definitions_at.nd (pi_list (pv 3)) blk_definitions_at_1 (fun _ _ _ _ _ => by exact (pg_name (i := 4) sc_definitions_at.nd rfl (Or.inl rfl))) (fun _ _ _ _ _ => by exact pts_nil) (fun _ _ _ _ _ => by exact (pe_fn D_definition_at (hr.mono (by decide)) rfl (pa_cons (pv 0) (pa_cons (pv 1) (pa_cons (pv 2) (pa_cons (pv 4) pa_nil))))))))), ?_⟩
    try dsimp only [cx_K]
    refine ⟨_, rfl, ws, rfl, ⟨_, SqL.of hw⟩, ?_⟩
    refine lc_walk (walk_list K ws (nsV t)) (fun i => (t[i]?).map fun w => upV (Si51.means l p w day)) (fun H' s => SqL.of (s _ _ hw)) ?_ ?_ ?_
    · rw [nsV_len]
      exact Nat.le_of_lt (small1000 (Nat.le_trans ht (by decide)))
    · rintro i x H1 H2 hi sm ⟨rfl, hx⟩ Ny Nn h1 h2
      obtain ⟨n, hn, rfl⟩ := nsV_get hx
      refine ⟨rfl, yes ?_⟩
      exact ⟨_, rfl, _, rfl, _, rfl, _, rfl, r, l, day, D, p, n, rfl, L.same sm, hC.same sm, hp, fun H' s' => h1 _ _ s' (by rw [hn]; rfl)⟩
    · intro B H' s hB e
      refine k H' B s hB ?_
      rw [e]
      refine congrArg (fun q => some (HO.lst q)) ?_
      unfold osOf upsV
      rw [nsV_len, List.map_map]
      exact range_fmM t _ fun i x h => by rw [h]; rfl
end
end Lw

end

section
set_option Elab.async false
set_option linter.all false
set_option maxRecDepth 100000
namespace Lw
open PySem PySem.Spec PyProof.Rows L2
open Si51 (Law)
section
variable {P : Program} {w : World} {K : PySem.W.Frag} {mg : Str → Option Value} {base : Heap} {c : Cl}
/-! ### definitions_in_body -/
abbrev s_definitions_in_body : Stmt := top 7
theorem sc_definitions_in_body : FnScope ["law", "counting", "number", "definition"] ["law", "counting", "number"] (defScope s_definitions_in_body) := ⟨rfl, rfl, rfl, by decide +kernel, rfl, by decide +kernel, by decide +kernel⟩
inductive Sp_definitions_in_body (c : Cl) (vs : List V) (H : Hp) (Q : VK) : Prop
  | mk (r : Rg) (l : Law) (day : Nat) (C : Addr) (d : Nat) (h0 : vs = [.ref r.a, .ref C, nV d]) (h1 : LawAt c r H l) (h2 : CountAt H C l day) (h3 : d < l.defs.length) (h4 : ∀ (H' : Hp) (B : Addr), Same H H' → H B = none → H' B = some (.lst (upsV (osOf l day (Si51.def_ l d).part (Si51.def_ l d).body))) → Q (.ref B) H') : Sp_definitions_in_body c vs H Q
def sp_definitions_in_body (c : Cl) : Sp := fun vs H Q _ => Sp_definitions_in_body c vs H Q
theorem ok_definitions_in_body {f : Addr} {fd : FuncData} (F : Fun K "definitions_in_body" "definitions_in_body" s_definitions_in_body f fd) (T : Txt K mg c) (D_definitions_at : FnD P w K mg base "definitions_at" 2 ["law", "counting", "part", "words"] (sp_definitions_at c)) :
    FnOk P w K mg base CX0 3 f fd ["law", "counting", "number"] (sp_definitions_in_body c) := by
  refine F.ok sc_definitions_in_body (fun vs H Q E h => ?_) (fun cdv A outer s H vs Q E hr h => ?_)
  · obtain ⟨r, l, day, C, d, rfl, _⟩ := h
    rfl
  · obtain ⟨r, l, day, C, d, rfl, L, hC, hdl, k⟩ := h
    refine ⟨_, (pss_cons (ps_set (i := 3) sc_definitions_in_body.nd rfl (by first | exact Or.inl rfl | exact Or.inr rfl) (pe_ix ix_list (pe_fld (pv 0) rfl) (pv 2) (fun _ _ => rfl)))
      (pss_one (ps_ret (pe_fn D_definitions_at (hr.mono (by decide)) rfl (pa_cons (pv 0) (pa_cons (pv 1) (pa_cons (pe_fld (pv 3) rfl) (pa_cons (pe_fld (pv 3) rfl) pa_nil)))))))), ?_⟩
    try dsimp only [cx_K]
    obtain ⟨p, dx, b, e1, e2, e3, e4⟩ := L.defAt (def_get hdl)
    refine ⟨_, rfl, r.a, c.L, r.dx, _, _, rfl, L.ins, T.clL, T.nL_defs, lF_defs, _, rfl, r.da, _, _, _, rfl, rfl, SqL.of L.defs, at_nat e1, ?_⟩
    refine ⟨_, rfl, _, rfl, _, rfl, p, c.D, dx, _, _, rfl, e3, T.clD, T.nD_part, dF_part, _, rfl, p, c.D, dx, _, _, rfl, e3, T.clD, T.nD_body, dF_body, ?_⟩
    exact ⟨r, l, day, C, (Si51.def_ l d).part, b, (Si51.def_ l d).body, rfl, L, hC, L.good.part _ (def_mem hdl), e4, L.good.body _ (def_mem hdl), k⟩
/-! ### is_hidden -/
abbrev s_is_hidden : Stmt := top 8
theorem sc_is_hidden : FnScope ["law", "counting", "number", "definition"] ["law", "counting", "number"] (defScope s_is_hidden) := ⟨rfl, rfl, rfl, by decide +kernel, rfl, by decide +kernel, by decide +kernel⟩
def hid (l : Law) (day d : Nat) : Bool := Si51.ownDef l (Si51.def_ l d).part (Si51.def_ l d).word day != some d
inductive Sp_is_hidden (c : Cl) (vs : List V) (H : Hp) (Q : VK) : Prop
  | mk (r : Rg) (l : Law) (day : Nat) (C : Addr) (d : Nat) (h0 : vs = [.ref r.a, .ref C, nV d]) (h1 : LawAt c r H l) (h2 : CountAt H C l day) (h3 : d ∈ force l day) (h4 : ∀ (H' : Hp), Same H H' → Q (.bl (hid l day d)) H') : Sp_is_hidden c vs H Q
def sp_is_hidden (c : Cl) : Sp := fun vs H Q _ => Sp_is_hidden c vs H Q
theorem ok_is_hidden {f : Addr} {fd : FuncData} (F : Fun K "is_hidden" "is_hidden" s_is_hidden f fd) (T : Txt K mg c) (D_definition_at : FnD P w K mg base "definition_at" 1 ["law", "counting", "part", "word"] (sp_definition_at c)) :
    FnOk P w K mg base CX0 2 f fd ["law", "counting", "number"] (sp_is_hidden c) := by
  refine F.ok sc_is_hidden (fun vs H Q E h => ?_) (fun cdv A outer s H vs Q E hr h => ?_)
  · obtain ⟨r, l, day, C, d, rfl, _⟩ := h
    rfl
  · obtain ⟨r, l, day, C, d, rfl, L, hC, hdf, k⟩ := h
    refine ⟨_, (pss_cons (ps_set (i := 3) sc_is_hidden.nd rfl (by first | exact Or.inl rfl | exact Or.inr rfl) (pe_ix ix_list (pe_fld (pv 0) rfl) (pv 2) (fun _ _ => rfl)))
      (pss_one (ps_ret (pe_cmp (pc_neI (pe_fn D_definition_at (hr.mono (by decide)) rfl (pa_cons (pv 0) (pa_cons (pv 1) (pa_cons (pe_fld (pv 3) rfl) (pa_cons (pe_fld (pv 3) rfl) pa_nil))))) (pv 2)))))), ?_⟩
    try dsimp only [cx_K]
    have hdl := (mem_force.mp hdf).1
    obtain ⟨p, dx, b, e1, e2, e3, e4⟩ := L.defAt (def_get hdl)
    refine ⟨_, rfl, r.a, c.L, r.dx, _, _, rfl, L.ins, T.clL, T.nL_defs, lF_defs, _, rfl, r.da, _, _, _, rfl, rfl, SqL.of L.defs, at_nat e1, ?_⟩
    have hpl := L.good.part _ (def_mem hdl)
    refine ⟨_, rfl, _, rfl, _, rfl, p, c.D, dx, _, _, rfl, e3, T.clD, T.nD_part, dF_part, _, rfl, p, c.D, dx, _, _, rfl, e3, T.clD, T.nD_word, dF_word, ?_⟩
    refine ⟨r, l, day, C, (Si51.def_ l d).part, (Si51.def_ l d).word, rfl, L, hC, hpl, fun H2 s2 => ?_⟩
    obtain ⟨e, he⟩ := own_some hdf
    have hm : Si51.means l (Si51.def_ l d).part (Si51.def_ l d).word day = some e := by
      rw [means_step L.good.wf (List.getElem?_eq_getElem hpl), he]
    rw [hm]
    refine ⟨_, rfl, _, _, rfl, rfl, ?_⟩
    have q := k H2 s2
    unfold hid at q
    rw [he] at q
    have e5 : (!decide ((e : Int) = (d : Int))) = ((some e : Option Nat) != some d) := by
      rw [deq]
      by_cases z : e = d
      · subst z; simp
      · simp [z]
    show Q (.bl (!decide ((e : Int) = (d : Int)))) H2
    rw [e5]
    exact q
/-! ### hidden_on -/
abbrev s_hidden_on : Stmt := top 9
theorem sc_hidden_on : FnScope ["law", "day", "counting", "number"] ["law", "day"] (defScope s_hidden_on) := ⟨rfl, rfl, rfl, by decide +kernel, rfl, by decide +kernel, by decide +kernel⟩
theorem blk_hidden_on_1 : BlkOk ["law", "day", "counting", "number"] (defScope s_hidden_on) (lcS (subE (stAt s_hidden_on 1) 0)) [("number", 3)] := ⟨rfl, by decide +kernel, by decide +kernel, by decide +kernel, by decide +kernel⟩
/-- the promise of a list of definitions in force -/
inductive Sp_some (c : Cl) (g : Law → Nat → List Nat) (vs : List V) (H : Hp) (Q : VK) : Prop
  | mk (r : Rg) (l : Law) (day : Nat) (h0 : vs = [.ref r.a, nV day]) (h1 : LawAt c r H l) (h2 : ∀ (H' : Hp) (D : Addr), Same H H' → H D = none → H' D = some (.lst (nsV (g l day))) → Q (.ref D) H') : Sp_some c g vs H Q
def sp_some (c : Cl) (g : Law → Nat → List Nat) : Sp := fun vs H Q _ => Sp_some c g vs H Q
theorem ok_hidden_on {f : Addr} {fd : FuncData} (F : Fun K "hidden_on" "hidden_on" s_hidden_on f fd) (T : Txt K mg c) (D_counting_on : FnD P w K mg base "counting_on" 3 ["law", "day"] (sp_counting_on c)) (D_numbers_in_force : FnD P w K mg base "numbers_in_force" 2 ["law", "day"] (sp_numbers_in_force c))
    (D_is_hidden : FnD P w K mg base "is_hidden" 2 ["law", "counting", "number"] (sp_is_hidden c)) : FnOk P w K mg base CX0 4 f fd ["law", "day"] (sp_some c Si51.hidden) := by
  refine F.ok sc_hidden_on (fun vs H Q E h => ?_) (fun cdv A outer s H vs Q E hr h => ?_)
  · obtain ⟨r, l, day, rfl, _⟩ := h
    rfl
  · obtain ⟨r, l, day, rfl, L, k⟩ := h
    refine ⟨_, (pss_cons (ps_set (i := 2) sc_hidden_on.nd rfl (by first | exact Or.inl rfl | exact Or.inr rfl) (pe_fn D_counting_on (hr.mono (by decide)) rfl (pa_cons (pv 0) (pa_cons (pv 1) pa_nil))))
      (pss_one (ps_ret (pe_lc (own := [("number", 3)]) rfl sc_hidden_on.nd (pi_list (pe_fn D_numbers_in_force (hr.mono (by decide)) rfl (pa_cons (pv 0) (pa_cons (pv 1) pa_nil)))) blk_hidden_on_1 (fun _ _ _ _ _ => by exact (pg_name (i := 3) sc_hidden_on.nd rfl (by first | exact Or.inl rfl | exact Or.inr rfl))) (fun _ _ _ _ _ => by exact (pts_one (pt_val (pe_fn D_is_hidden (hr.mono (by decide)) rfl (pa_cons (pv 0) (pa_cons (pv 2) (pa_cons (pv 3) pa_nil))))))) (fun _ _ _ _ _ => by exact (pv 3)))))), ?_⟩
    try dsimp only [cx_K]
    refine ⟨_, rfl, _, rfl, r, l, day, rfl, L, fun H1 C s1 hCn hC => ?_⟩
    refine ⟨_, rfl, _, rfl, r, l, day, rfl, L.same s1, fun H2 M s2 hMn hM => ⟨M, rfl, ⟨_, SqL.of hM⟩, ?_⟩⟩
    have s12 := s1.trans s2
    refine lc_walk (walk_list K M (nsV (force l day))) (fun i => ((force l day)[i]?).bind fun d => if hid l day d = true then some (nV d) else none) (fun H' s => SqL.of (s _ _ hM)) ?_ ?_ ?_
    · rw [nsV_len]
      exact Nat.le_of_lt (small1000 (Nat.le_trans force_len (Nat.le_trans L.good.defs (by decide))))
    · rintro i x H3 H3' hi sm ⟨rfl, hx⟩ Ny Nn h1 h2
      obtain ⟨d, hd, rfl⟩ := nsV_get hx
      have hdf := List.mem_of_getElem? hd
      refine ⟨rfl, ?_⟩
      refine ⟨_, rfl, _, rfl, _, rfl, r, l, day, C, d, rfl, L.same (s12.trans sm), (hC.same s2).same sm, hdf, fun H4 s4 => ⟨_, rfl, ?_⟩⟩
      refine ite2 (fun h => ?_) (fun h => ?_)
      · exact ⟨_, rfl, h1 _ _ s4 (by rw [hd]; show (if _ then _ else _) = _; rw [if_pos h])⟩
      · exact h2 _ s4 (by rw [hd]; show (if _ then _ else _) = _; rw [if_neg h])
    · intro D H' s hD e
      refine k H' D (s12.trans s) (s12.free hD) ?_
      rw [e]
      refine congrArg (fun q => some (HO.lst q)) ?_
      rw [nsV_len, range_fm (f := fun d => if hid l day d = true then some (nV d) else none) (force l day) _ fun i x h => by rw [h]; rfl, fm_filter, hidden_eq]
      rfl
end
end Lw

end

section
set_option Elab.async false
set_option linter.all false
set_option maxRecDepth 100000
namespace Lw
open PySem PySem.Spec PyProof.Rows L2
open Si51 (Law)
def natsI (l : List Nat) : List Int := l.map fun n : Nat => (n : Int)
theorem nsV_natsI (l : List Nat) : nsV l = (natsI l).map V.int := by
  unfold nsV natsI
  rw [List.map_map]
  rfl
theorem natsI_len (l : List Nat) : (natsI l).length = l.length := List.length_map ..
theorem rise_extI : ∀ {a b : List Int}, a.Pairwise (· < ·) → b.Pairwise (· < ·) → (∀ x, x ∈ a ↔ x ∈ b) → a = b
  | [], [], _, _, _ => rfl
  | [], y :: b, _, _, h => by
    have := (h y).mpr (by simp)
    cases this
  | x :: a, [], _, _, h => by
    have := (h x).mp (by simp)
    cases this
  | x :: a, y :: b, ha, hb, h => by
    obtain ⟨ha1, ha2⟩ := List.pairwise_cons.mp ha
    obtain ⟨hb1, hb2⟩ := List.pairwise_cons.mp hb
    have e : x = y := by
      have h1 := (h x).mp (by simp)
      have h2 := (h y).mpr (by simp)
      rcases List.mem_cons.mp h1 with h1 | h1
      · exact h1
      · rcases List.mem_cons.mp h2 with h2 | h2
        · exact h2.symm
        · have := hb1 x h1
          have := ha1 y h2
          omega
    subst e
    refine congrArg (x :: ·) (rise_extI ha2 hb2 fun z => ?_)
    have hz := h z
    rw [List.mem_cons, List.mem_cons] at hz
    constructor
    · intro q
      rcases hz.mp (.inr q) with e | e
      · have := ha1 z q; omega
      · exact e
    · intro q
      rcases hz.mpr (.inr q) with e | e
      · have := hb1 z q; omega
      · exact e
/-- the days as they are told -/
def rawDays (l : Law) (i : Nat) : List Nat := 0 :: (l.defs.take i).flatMap fun d => d.from_ :: d.to_.toList
theorem rawDays_succ {l : Law} {i : Nat} {d : Si51.Def} (h : l.defs[i]? = some d) : rawDays l (i + 1) = rawDays l i ++ (d.from_ :: d.to_.toList) := by
  unfold rawDays
  rw [take_succ_get h, List.flatMap_append]
  simp
theorem rawDays_len {l : Law} : ∀ (i : Nat), i ≤ l.defs.length → (rawDays l i).length ≤ 1 + 2 * i
  | 0, _ => by simp [rawDays]
  | i + 1, h => by
    have hd := List.getElem?_eq_getElem (show i < l.defs.length by omega)
    rw [rawDays_succ hd, List.length_append, List.length_cons]
    have := rawDays_len (l := l) i (by omega)
    have : (l.defs[i].to_.toList).length ≤ 1 := by cases l.defs[i].to_ <;> simp
    omega
theorem mem_rawDays {l : Law} {x : Nat} : x ∈ rawDays l l.defs.length ↔ x ∈ turnD l := by
  rw [mem_turnD, mem_daysOf]
  unfold rawDays
  rw [List.take_length, List.mem_cons, List.mem_flatMap]
  refine or_congr Iff.rfl ⟨fun ⟨d, hd, h⟩ => ⟨d, hd, ?_⟩, fun ⟨d, hd, h⟩ => ⟨d, hd, ?_⟩⟩
  · rcases List.mem_cons.mp h with h | h
    · exact .inl h
    · exact .inr (by simpa using h)
  · rcases h with h | h
    · simp [h]
    · simp [h]
theorem turn_of {l : Law} {ks : List Int} (hr : ks.Pairwise (· < ·)) (hm : ∀ k, k ∈ ks ↔ k ∈ natsI (rawDays l l.defs.length)) : ks.map V.int = nsV (turnD l) := by
  rw [nsV_natsI]
  refine congrArg (List.map V.int) (rise_extI hr ?_ fun k => ?_)
  · unfold natsI
    rw [List.pairwise_map]
    exact turnD_rise.imp fun h => by omega
  · rw [hm]
    unfold natsI
    rw [List.mem_map, List.mem_map]
    exact ⟨fun ⟨x, hx, e⟩ => ⟨x, mem_rawDays.mp hx, e⟩, fun ⟨x, hx, e⟩ => ⟨x, mem_rawDays.mpr hx, e⟩⟩
section
variable {P : Program} {w : World} {K : PySem.W.Frag} {mg : Str → Option Value} {base : Heap} {c : Cl}
abbrev s_turning_days : Stmt := top 10
theorem sc_turning_days : FnScope ["law", "days", "definition"] ["law"] (defScope s_turning_days) := ⟨rfl, rfl, rfl, by decide +kernel, rfl, by decide +kernel, by decide +kernel⟩
inductive Sp_turning_days (c : Cl) (vs : List V) (H : Hp) (Q : VK) : Prop
  | mk (r : Rg) (l : Law) (h0 : vs = [.ref r.a]) (h1 : LawAt c r H l) (h2 : ∀ (H' : Hp) (D : Addr), Same H H' → H D = none → H' D = some (.lst (nsV (turnD l))) → (turnD l).length ≤ 41 → Q (.ref D) H') : Sp_turning_days c vs H Q
def sp_turning_days (c : Cl) : Sp := fun vs H Q _ => Sp_turning_days c vs H Q
theorem raw20 {n i d : Nat} (h : n ≤ 1 + 2 * i) (hi : i ≤ d) (hd : d ≤ 20) : n ≤ 41 := by omega
theorem ok_turning_days {f : Addr} {fd : FuncData} (F : Fun K "turning_days" "turning_days" s_turning_days f fd) (T : Txt K mg c) : FnOk P w K mg base CX0 1 f fd ["law"] (sp_turning_days c) := by
  refine F.ok sc_turning_days (fun vs H Q E h => ?_) (fun cdv A outer s H vs Q E hr h => ?_)
  · obtain ⟨r, l, rfl, _⟩ := h
    rfl
  · obtain ⟨r, l, rfl, L, k⟩ := h
    refine ⟨_, (pss_cons (ps_set (i := 1) sc_turning_days.nd rfl (by first | exact Or.inl rfl | exact Or.inr rfl) (pe_lst (pa_cons pe_int pa_nil)))
      (pss_cons (ps_for PassesOwn.never rfl (pi_list (pe_fld (pv 0) rfl)) (pg_name (i := 2) sc_turning_days.nd rfl (by first | exact Or.inl rfl | exact Or.inr rfl))
      (pss_cons (ps_expr (pe_bm PySem.F.plainAttrs_list PySem.F.slot_list_append PySem.F.type_list_append mt_append (pv 1) (pa_cons (pe_fld (pv 2) rfl) pa_nil)))
        (pss_one (ps_if (pt_cmp (pc_neI (pe_fld (pv 2) rfl) (pe_gint rfl T.g_WITHOUT_END)))
        (pss_one (ps_expr (pe_bm PySem.F.plainAttrs_list PySem.F.slot_list_append PySem.F.type_list_append mt_append (pv 1) (pa_cons (pe_fld (pv 2) rfl) pa_nil))))
        pss_nil))))
      (pss_one (ps_ret (pe_callB (cr_sortedO rfl) (by rfl) T.b_sorted lwb_sorted (pa_cons (pe_callTy (cr_set rfl) (by rfl) T.b_set lwb_set (pa_cons (pv 1) pa_nil)) pa_nil)))))), ?_⟩
    try dsimp only [cx_K]
    refine ⟨(by show 1 ≤ sizeLine; decide), fun G hG => ?_⟩
    have s1 : Same H (upd H G (.lst [.int 0])) := Same.new hG
    refine ⟨_, rfl, r.a, c.L, r.dx, _, _, rfl, (L.same s1).ins, T.clL, T.nL_defs, lF_defs, r.da, rfl, ⟨_, SqL.of (L.same s1).defs⟩, ?_⟩
    refine for_walk (walk_list K r.da (r.ds.map V.ref)) (fun i σ H' => ∃ (v2 : Option V), σ = [some (.ref r.a), some (.ref G), v2] ∧ Same H H' ∧ H' G = some (.lst (nsV (rawDays l i))))
      ⟨none, rfl, s1, upd_same⟩ (fun i σ H' _ ⟨_, _, sm, _⟩ => SqL.of (sm _ _ L.defs)) ?_ ?_
    · rintro i x σ H1 H1' hi ⟨v2, rfl, sm, hGk⟩ ⟨rfl, hx⟩
      have hil : i < l.defs.length := by rw [List.length_map, L.dl] at hi; exact hi
      have hd := List.getElem?_eq_getElem hil
      have L1 := L.same sm
      obtain ⟨p, dx, b, e1, e2, e3, e4⟩ := L1.defAt hd
      rw [e1] at hx
      obtain rfl := Option.some.inj hx
      have hlen := rawDays_len (l := l) i (Nat.le_of_lt hil)
      have h20 := L.good.defs
      have hpG : p ≠ G := fun z => by rw [z, hGk] at e3; cases e3
      have hz : (nsV (rawDays l i)).length ≤ 1000 := by rw [nsV_len]; exact Nat.le_trans (raw20 hlen (Nat.le_of_lt hil) h20) (by decide)
      refine ⟨_, rfl, .inl ⟨rfl, _, SqL.of hGk⟩, _, rfl, p, c.D, dx, _, _, rfl, e3, T.clD, T.nD_since, dF_since, G, _, _, rfl, rfl, hGk, small1000 hz, ?_⟩
      have sA : Same H (upd H1' G (.lst (nsV (rawDays l i) ++ [nV l.defs[i].from_]))) := sm.upd hG
      refine ⟨_, rfl, p, c.D, dx, _, _, rfl, (by rw [upd_ne hpG]; exact e3), T.clD, T.nD_until, dF_until, _, _, rfl, rfl, _, rfl, ?_⟩
      cases ht : l.defs[i].to_ with
      | none =>
        refine iteF ⟨_, rfl, sA, ?_⟩
        rw [upd_same, rawDays_succ hd, ht]
        refine congrArg (fun q => some (HO.lst q)) ?_
        unfold nsV
        rw [List.map_append]
        rfl
      | some t =>
        have t0 : t ≠ 0 := fun z => L.good.till _ (List.getElem_mem hil) (by rw [ht, z])
        refine ite2 (fun _ => ?_) (fun z => ?_)
        · refine ⟨_, rfl, .inl ⟨rfl, _, SqL.of upd_same⟩, _, rfl, p, c.D, dx, _, _, rfl, (by rw [upd_ne hpG]; exact e3), T.clD, T.nD_until, dF_until, G, _, _, rfl, rfl, upd_same, small1000 (by rw [List.length_append, nsV_len]; exact Nat.le_trans (Nat.add_le_add_right (raw20 hlen (Nat.le_of_lt hil) h20) 1) (by decide)), ?_⟩
          rw [upd_upd]
          refine ⟨_, rfl, sm.upd hG, ?_⟩
          rw [upd_same, rawDays_succ hd, ht]
          refine congrArg (fun q => some (HO.lst q)) ?_
          unfold nsV
          rw [List.map_append, List.append_assoc]
          rfl
        · exact absurd (by show (!decide ((((some t : Option Nat).getD 0 : Nat) : Int) = 0)) = true; simp [t0]) z
    · rintro σ H1 ⟨v2, rfl, sm, hGk⟩
      rw [List.length_map, L.dl] at hGk
      have hlen := rawDays_len (l := l) l.defs.length (Nat.le_refl _)
      have h20 := L.good.defs
      refine ⟨_, rfl, G, natsI (rawDays l l.defs.length), rfl, (by rw [← nsV_natsI]; exact SqL.of hGk), by rw [natsI_len]; exact Nat.le_trans (raw20 hlen (Nat.le_refl _) h20) (by decide), fun S hS => ?_⟩
      refine ⟨S, natsI (rawDays l l.defs.length), rfl, upd_same, by rw [natsI_len]; exact Nat.lt_of_le_of_lt (raw20 hlen (Nat.le_refl _) h20) (by decide), fun ks D hks hm hle hD => ?_⟩
      have sS : Same H1 (upd H1 S (setO P w S (natsI (rawDays l l.defs.length)))) := Same.new hS
      have sD : Same H (upd (upd H1 S (setO P w S (natsI (rawDays l l.defs.length)))) D (.lst (ks.map V.int))) := (sm.trans sS).trans (Same.new hD)
      have e := turn_of hks hm
      refine k _ D sD ((sm.trans sS).free hD) (by rw [upd_same, e]) ?_
      have := congrArg List.length e
      rw [List.length_map, nsV_len] at this
      rw [← this]
      rw [natsI_len] at hle
      exact Nat.le_trans hle (raw20 hlen (Nat.le_refl _) h20)
end
end Lw

end

section
set_option Elab.async false
set_option linter.all false
set_option maxRecDepth 100000
namespace Lw
open PySem PySem.Spec PyProof.Rows L2
open Si51 (Law)
def nK (d : Nat) : Key := Sum.inl (d : Int)
theorem nK_inj {a b : Nat} (h : nK a = nK b) : a = b := by
  have := Sum.inl.inj h
  omega
/-- a link that is none, or among the keys -/
def linkIn (kvs : List (Key × V)) (o : Option Nat) : Bool := match o with
  | none => true
  | some d => (valV kvs (nK d)).isSome
theorem upsV_get {os : List (Option Nat)} {i : Nat} {x : V} (h : (upsV os)[i]? = some x) : ∃ o, os[i]? = some o ∧ x = upV o := by
  unfold upsV at h
  rw [List.getElem?_map] at h
  cases e : os[i]? with
  | none => rw [e] at h; cases h
  | some n => rw [e] at h; exact ⟨n, rfl, (Option.some.inj h).symm⟩
theorem upsV_len (l : List (Option Nat)) : (upsV l).length = l.length := List.length_map ..
section
variable {P : Program} {w : World} {K : PySem.W.Frag} {mg : Str → Option Value} {base : Heap} {c : Cl}
/-! ### all_spelled -/
abbrev s_all_spelled : Stmt := top 21
theorem sc_all_spelled : FnScope ["links", "spelled", "link"] ["links", "spelled"] (defScope s_all_spelled) := ⟨rfl, rfl, rfl, by decide +kernel, rfl, by decide +kernel, by decide +kernel⟩
theorem blk_all_spelled_1 : BlkOk ["links", "spelled", "link"] (defScope s_all_spelled) (lcS (kidE (subE (stAt s_all_spelled 0) 0) 1)) [("link", 2)] := ⟨rfl, by decide +kernel, by decide +kernel, by decide +kernel, by decide +kernel⟩
inductive Sp_all_spelled (vs : List V) (H : Hp) (Q : VK) : Prop
  | mk (B S : Addr) (os : List (Option Nat)) (kvs : List (Key × V)) (h0 : vs = [.ref B, .ref S]) (h1 : H B = some (.lst (upsV os))) (h2 : os.length ≤ 20) (h3 : H S = some (.dK kvs)) (h4 : ∀ (H' : Hp), Same H H' → Q (.bl (os.all (linkIn kvs))) H') : Sp_all_spelled vs H Q
def sp_all_spelled : Sp := fun vs H Q _ => Sp_all_spelled vs H Q
theorem ok_all_spelled {f : Addr} {fd : FuncData} (F : Fun K "all_spelled" "all_spelled" s_all_spelled f fd) (T : Txt K mg c) :
    FnOk P w K mg base CX0 1 f fd ["links", "spelled"] sp_all_spelled := by
  refine F.ok sc_all_spelled (fun vs H Q E h => ?_) (fun cdv A outer s H vs Q E hr h => ?_)
  · obtain ⟨B, S, os, kvs, rfl, _⟩ := h
    rfl
  · obtain ⟨B, S, os, kvs, rfl, hB, hlen, hS, k⟩ := h
    have hu := hu_of hr
    refine ⟨_, (pss_one (ps_ret (pe_callB (call_all rfl) (by rfl) T.b_all boot_all (pa_cons (pe_lc (own := [("link", 2)]) rfl sc_all_spelled.nd (pi_list (pv 0)) blk_all_spelled_1 (fun _ _ _ _ _ => by exact (pg_name (i := 2) sc_all_spelled.nd rfl (by first | exact Or.inl rfl | exact Or.inr rfl))) (fun _ _ _ _ _ => by exact pts_nil) (fun _ _ _ _ _ => by exact (pe_or (pe_cmp (pc_isN (pv 2))) (pe_one (pe_cmp (pc_din hu (pv 2) (pv 1))))))) pa_nil)))), ?_⟩
    try dsimp only [cx_K]
    refine ⟨_, rfl, B, rfl, ⟨_, SqL.of hB⟩, ?_⟩
    refine lc_walk (walk_list K B (upsV os)) (fun i => (os[i]?).map fun o => V.bl (linkIn kvs o)) (fun H' s => SqL.of (s _ _ hB)) ?_ ?_ ?_
    · rw [upsV_len]
      exact Nat.le_of_lt (small1000 (Nat.le_trans hlen (by decide)))
    · rintro i x H1 H2 hi sm ⟨rfl, hx⟩ Ny Nn h1 h2
      obtain ⟨o, ho, rfl⟩ := upsV_get hx
      refine ⟨rfl, yes ?_⟩
      refine ⟨_, rfl, _, rfl, ?_⟩
      cases o with
      | none => exact iteT (h1 _ _ (Same.refl _) (by rw [ho]; rfl))
      | some d =>
        refine iteF ?_
        exact ⟨_, rfl, _, rfl, S, _, rfl, DGet.k (k := nK d) (sm _ _ hS), h1 _ _ (Same.refl _) (by rw [ho]; rfl)⟩
    · intro B' H' s hB' e
      have e2 : (List.range (upsV os).length).filterMap (fun i => (os[i]?).map fun o => V.bl (linkIn kvs o)) = (os.map (linkIn kvs)).map V.bl := by
        rw [upsV_len, List.map_map]
        exact range_fmM os _ fun i x h => by rw [h]; rfl
      rw [e2] at e
      refine ⟨B', os.map (linkIn kvs), rfl, SqL.of e, ?_⟩
      have e3 : (os.map (linkIn kvs)).all id = os.all (linkIn kvs) := by
        rw [List.all_map]
        rfl
      rw [e3]
      exact k H' s
/-! ### put_together -/
abbrev s_put_together : Stmt := top 22
theorem sc_put_together : FnScope ["words", "links", "spelled", "longer", "word", "link"] ["words", "links", "spelled"] (defScope s_put_together) := ⟨rfl, rfl, rfl, by decide +kernel, rfl, by decide +kernel, by decide +kernel⟩
/-- the dict has the body of d, spelled out, cut -/
def HasBody (H : Hp) (kvs : List (Key × V)) (l : Law) (day d : Nat) : Prop := ∃ a x, valV kvs (nK d) = some (.ref a) ∧ H a = some (.lst (nsV (x.take 1001))) ∧ bodyOf l day d = some x
theorem HasBody.same {H H' : Hp} {kvs : List (Key × V)} {l : Law} {day d : Nat} (h : HasBody H kvs l day d) (s : Same H H') : HasBody H' kvs l day d := let ⟨a, x, h1, h2, h3⟩ := h; ⟨a, x, h1, s _ _ h2, h3⟩
inductive Sp_put_together (vs : List V) (H : Hp) (Q : VK) : Prop
  | mk (l : Law) (day p : Nat) (W B S : Addr) (t : List Nat) (kvs : List (Key × V)) (h0 : vs = [.ref W, .ref B, .ref S]) (h1 : H W = some (.lst (nsV t))) (h2 : H B = some (.lst (upsV (osOf l day p t)))) (h3 : t.length ≤ 20) (h4 : H S = some (.dK kvs)) (h5 : (∀ w ∈ t, ∀ d, Si51.means l p w day = some d → HasBody H kvs l day d)) (h6 : ∀ (H' : Hp) (R : Addr) (x : List Nat), Same H H' → H R = none → H' R = some (.lst (nsV (x.take 1001))) → Si51.spelled l day p t = some x → Q (.ref R) H') : Sp_put_together vs H Q
def sp_put_together : Sp := fun vs H Q _ => Sp_put_together vs H Q
theorem nsV_append (a b : List Nat) : nsV (a ++ b) = nsV a ++ nsV b := List.map_append ..
theorem nsV_take (a : List Nat) (n : Nat) : nsV (a.take n) = (nsV a).take n := List.map_take ..
theorem cutV_take (xs : List V) (n : Nat) : cutV xs none (some (n : Int)) = xs.take n := by
  unfold cutV
  rw [HT.sIx_none, List.drop_zero, Nat.sub_zero]
  show xs.take (if (n : Int) < 0 then ((n : Int) + (xs.length : Int)).toNat else min (n : Int).toNat xs.length) = _
  rw [if_neg (by omega), Int.toNat_natCast]
  by_cases h : n ≤ xs.length
  · rw [Nat.min_eq_left h]
  · rw [Nat.min_eq_right (by omega), List.take_length, List.take_of_length_le (by omega)]
theorem flatten_take_succ {α : Type} {ps : List (List α)} {i : Nat} {x : List α} (h : ps[i]? = some x) : (ps.take (i + 1)).flatten = (ps.take i).flatten ++ x := by
  rw [take_succ_get h, List.flatten_append]
  simp
theorem flatten_split {α : Type} {ps : List (List α)} {i : Nat} {x : List α} (h : ps[i]? = some x) : ps.flatten = (ps.take i).flatten ++ x ++ (ps.drop (i + 1)).flatten := by
  rw [← flatten_take_succ h, ← List.flatten_append, List.take_append_drop]
inductive PutW (W B S G : Addr) (ps : List (List Nat)) (H : Hp) (i : Nat) (σ : L2.St) (H' : Hp) : Prop
  | mk (v4 v5 : Option V) (e : σ = [some (.ref W), some (.ref B), some (.ref S), some (.ref G), v4, v5]) (s : Same H H') (h : H' G = some (.lst (nsV (ps.take i).flatten)) ∧ (ps.take i).flatten.length ≤ 1000) : PutW W B S G ps H i σ H'
theorem ok_put_together {f : Addr} {fd : FuncData} (F : Fun K "put_together" "put_together" s_put_together f fd) (T : Txt K mg c) :
    FnOk P w K mg base CX0 1 f fd ["words", "links", "spelled"] sp_put_together := by
  refine F.ok sc_put_together (fun vs H Q E h => ?_) (fun cdv A outer s H vs Q E hr h => ?_)
  · obtain ⟨l, day, p, W, B, S, t, kvs, rfl, _⟩ := h
    rfl
  · obtain ⟨l, day, p, W, B, S, t, kvs, rfl, hW, hB, hlen, hS, hall, k⟩ := h
    have hu := hu_of hr
    -- the pieces
    obtain ⟨ps, hps⟩ : ∃ ps, t.mapM (wordOf l day p) = some ps := mapM_some_of fun w hw => by
      unfold wordOf
      cases e : Si51.means l p w day with
      | none => exact ⟨_, rfl⟩
      | some d =>
        obtain ⟨a, x, _, _, e3⟩ := hall w hw d e
        exact ⟨x, e3⟩
    obtain ⟨hpl, hpg⟩ := mapM_some_get hps
    have hsp : Si51.spelled l day p t = some ps.flatten := by rw [spelled_eq, hps]; rfl
    refine ⟨_, (pss_cons (ps_set (i := 3) sc_put_together.nd rfl (by first | exact Or.inl rfl | exact Or.inr rfl) (pe_lst pa_nil))
      (pss_cons (ps_for PassesOwn.never rfl (pi_zip (by rfl) T.b_zip (pa_cons (pv 0) (pa_cons (pv 1) pa_nil))) (pg_tup rfl (pgs_cons (pg_name (i := 4) sc_put_together.nd rfl (by first | exact Or.inl rfl | exact Or.inr rfl)) (pgs_cons (pg_name (i := 5) sc_put_together.nd rfl (by first | exact Or.inl rfl | exact Or.inr rfl)) pgs_nil)))
      (pss_cons (ps_if (pt_cmp (pc_isN (pv 5)))
        (pss_one (ps_expr (pe_bm PySem.F.plainAttrs_list PySem.F.slot_list_append PySem.F.type_list_append mt_append (pv 3) (pa_cons (pv 4) pa_nil))))
        (pss_one (ps_expr (pe_bm PySem.F.plainAttrs_list PySem.F.slot_list_extend PySem.F.type_list_extend mt_extend (pv 3) (pa_cons (pe_dget hu (pv 2) (pv 5) (fun _ _ => rfl)) pa_nil)))))
        (pss_one (ps_if (pt_cmp (pc_gt (pe_callB call_len_seq (by rfl) T.b_len PySem.boot_len (pa_cons (pv 3) pa_nil)) (pe_gint rfl T.g_MOST_SPELLED)))
        (pss_one (ps_ret (pe_slice sl_list (pv 3) po_none (po_some (pe_op op_add (pe_gint rfl T.g_MOST_SPELLED) pe_int)))))
        pss_nil))))
      (pss_one (ps_ret (pv 3))))), ?_⟩
    try dsimp only [cx_K]
    refine ⟨Nat.zero_le _, fun G hG => ?_⟩
    have s1 : Same H (upd H G (.lst [])) := Same.new hG
    have hosl : (upsV (osOf l day p t)).length = (nsV t).length := by rw [upsV_len, nsV_len]; exact List.length_map ..
    refine ⟨_, rfl, _, rfl, W, B, _, _, rfl, SqL.of (s1 _ _ hW), SqL.of (s1 _ _ hB), ?_⟩
    refine for_walk (walk_zip K W B (nsV t) (upsV (osOf l day p t)) hosl) (fun i σ H' => PutW W B S G ps H i σ H')
      ⟨none, none, rfl, s1, upd_same, Nat.zero_le _⟩ (fun i σ H' _ ⟨_, _, _, sm, _⟩ => ⟨SqL.of (sm _ _ hW), SqL.of (sm _ _ hB)⟩) ?_ ?_
    · rintro i x σ H1 H2 hi ⟨v4, v5, rfl, sm, hGk, hle⟩ ⟨tt, y, z, rfl, hT, rfl, hy, hz⟩
      obtain ⟨n, hn, rfl⟩ := nsV_get hy
      obtain ⟨o, ho, rfl⟩ := upsV_get hz
      have ho2 : o = Si51.means l p n day := by
        unfold osOf at ho
        rw [List.getElem?_map, hn] at ho
        exact (Option.some.inj ho).symm
      obtain ⟨pc, hpc, hwo⟩ := hpg i n hn
      have s3 : Same H1 (upd H1 tt (.tup [nV n, upV o])) := Same.new hT
      have hGT : G ≠ tt := fun q => by rw [q, hT] at hGk; cases hGk
      have sH : Same H (upd H1 tt (.tup [nV n, upV o])) := sm.trans s3
      have hG3 : (upd H1 tt (.tup [nV n, upV o])) G = some (.lst (nsV (ps.take i).flatten)) := s3 _ _ hGk
      have hl3 : (nsV (ps.take i).flatten).length ≤ 1000 := by rw [nsV_len]; exact hle
      -- the two ends
      have fin1 : ∀ (H4 : Hp), Same H H4 → 1000 < (nsV (ps.take i).flatten ++ nsV (pc.take 1001)).length → ∀ R, H4 R = none → Q (.ref R) (upd H4 R (.lst (cutV (nsV (ps.take i).flatten ++ nsV (pc.take 1001)) none (some ((1001 : Nat) : Int))))) := fun H4 s4 hlt R hR => by
        have hRn : H R = none := s4.free hR
        refine k _ R ps.flatten (s4.upd hRn) hRn ?_ hsp
        rw [upd_same, cutV_take, ← nsV_append, ← nsV_take, flatten_split hpc]
        rw [cut_more (n := 1001) (c := (ps.drop (i + 1)).flatten)]
        rw [← nsV_append, nsV_len] at hlt
        exact hlt
      have fin2 : ∀ (H4 : Hp), ¬ 1000 < (nsV (ps.take i).flatten ++ nsV (pc.take 1001)).length → H4 G = some (.lst (nsV (ps.take i).flatten ++ nsV (pc.take 1001))) → H4 G = some (.lst (nsV (ps.take (i + 1)).flatten)) ∧ (ps.take (i + 1)).flatten.length ≤ 1000 := fun H4 hlt e => by
        rw [← nsV_append, nsV_len] at hlt
        have hc : pc.take 1001 = pc := cut_less (by rw [List.length_append] at hlt; exact Nat.lt_succ_of_le (Nat.le_trans (Nat.le_add_left _ _) (Nat.le_of_not_lt hlt)))
        rw [hc] at e hlt
        rw [flatten_take_succ hpc, e, ← nsV_append]
        exact ⟨rfl, Nat.le_of_not_lt hlt⟩
      refine ⟨tt, _, rfl, SqT.of upd_same, rfl, _, _, rfl, _, _, rfl, rfl, ?_⟩
      refine ⟨_, rfl, _, rfl, ?_⟩
      cases hm : Si51.means l p n day with
      | none =>
        obtain rfl : o = none := ho2.trans hm
        have epc : pc = [n] := by
          unfold wordOf at hwo
          rw [hm] at hwo
          exact (Option.some.inj hwo).symm
        have ecut : nsV (pc.take 1001) = [nV n] := by rw [epc]; rfl
        rw [ecut] at fin1 fin2
        refine iteT ?_
        refine ⟨_, rfl, .inl ⟨rfl, _, SqL.of hG3⟩, _, rfl, G, _, _, rfl, rfl, hG3, small1000 hl3, ?_⟩
        refine ⟨_, rfl, G, _, rfl, .inl (SqL.of upd_same), _, _, rfl, rfl, _, rfl, ?_⟩
        refine ite2 (fun h => ?_) (fun h => ?_)
        · have h := of_decide_eq_true h
          refine ⟨_, rfl, _, _, rfl, rfl, _, rfl, G, _, rfl, SqL.of upd_same, fun R hR => ?_⟩
          exact fin1 _ (sH.upd hG) ((Int.ofNat_lt (n := 1000)).mp h) R hR
        · have h2 : ¬ 1000 < (nsV (ps.take i).flatten ++ [nV n]).length := fun z => h (decide_eq_true ((Int.ofNat_lt (n := 1000)).mpr z))
          exact ⟨_, _, rfl, sH.upd hG, fin2 _ h2 upd_same⟩
      | some d =>
        obtain rfl : o = some d := ho2.trans hm
        obtain ⟨a, xx, hv, ha, hb⟩ := hall n (List.mem_of_getElem? hn) d hm
        have epc : pc = xx := by
          unfold wordOf at hwo
          rw [hm] at hwo
          exact Option.some.inj (hwo.symm.trans hb)
        subst epc
        refine iteF ?_
        have ha3 := sH _ _ ha
        refine ⟨_, rfl, .inl ⟨rfl, _, SqL.of hG3⟩, _, rfl, _, rfl, S, _, rfl, (by rw [← hv]; exact DGet.k (k := nK d) (sH _ _ hS)), G, a, _, _, rfl, rfl, hG3, ha3, ?_, ?_⟩
        · have : (nsV (pc.take 1001)).length ≤ 1001 := by rw [nsV_len]; exact List.length_take_le ..
          exact Nat.le_of_lt (Nat.lt_of_le_of_lt (Nat.add_le_add hl3 this) (by decide))
        refine ⟨_, rfl, G, _, rfl, .inl (SqL.of upd_same), _, _, rfl, rfl, _, rfl, ?_⟩
        refine ite2 (fun h => ?_) (fun h => ?_)
        · have h := of_decide_eq_true h
          refine ⟨_, rfl, _, _, rfl, rfl, _, rfl, G, _, rfl, SqL.of upd_same, fun R hR => ?_⟩
          exact fin1 _ (sH.upd hG) ((Int.ofNat_lt (n := 1000)).mp h) R hR
        · have h2 : ¬ 1000 < (nsV (ps.take i).flatten ++ nsV (pc.take 1001)).length := fun z => h (decide_eq_true ((Int.ofNat_lt (n := 1000)).mpr z))
          exact ⟨_, _, rfl, sH.upd hG, fin2 _ h2 upd_same⟩
    · rintro σ H1 ⟨v4, v5, rfl, sm, hGk, hle⟩
      rw [nsV_len, ← hpl, List.take_length] at hGk hle
      refine ⟨_, rfl, k H1 G ps.flatten sm hG ?_ hsp⟩
      rw [hGk, List.take_of_length_le (Nat.le_succ_of_le hle)]
end
end Lw

end

section
set_option Elab.async false
set_option linter.all false
set_option maxRecDepth 100000
namespace Lw
open PySem PySem.Spec PyProof.Rows L2
open Si51 (Law)
/-- the dict of what the bodies' words lead to -/
def LinksAt (H : Hp) (B : Addr) (l : Law) (day : Nat) (ds : List Nat) : Prop := ∃ kvs, H B = some (.dK kvs) ∧ ∀ d ∈ ds, ∃ a, valV kvs (nK d) = some (.ref a) ∧ H a = some (.lst (upsV (osOf l day (Si51.def_ l d).part (Si51.def_ l d).body)))
theorem LinksAt.same {H H' : Hp} {B : Addr} {l : Law} {day : Nat} {ds : List Nat} (h : LinksAt H B l day ds) (s : Same H H') : LinksAt H' B l day ds :=
  let ⟨k, a, b⟩ := h; ⟨k, s _ _ a, fun d hd => let ⟨x, h1, h2⟩ := b d hd; ⟨x, h1, s _ _ h2⟩⟩
section
variable {P : Program} {w : World} {K : PySem.W.Frag} {mg : Str → Option Value} {base : Heap} {c : Cl}
/-! ### links_of_bodies -/
abbrev s_links_of_bodies : Stmt := top 23
theorem sc_links_of_bodies : FnScope ["law", "counting", "numbers", "links", "number"] ["law", "counting", "numbers"] (defScope s_links_of_bodies) := ⟨rfl, rfl, rfl, by decide +kernel, rfl, by decide +kernel, by decide +kernel⟩
inductive Sp_links_of_bodies (c : Cl) (vs : List V) (H : Hp) (Q : VK) : Prop
  | mk (r : Rg) (l : Law) (day : Nat) (C M : Addr) (ds : List Nat) (h0 : vs = [.ref r.a, .ref C, .ref M]) (h1 : LawAt c r H l) (h2 : CountAt H C l day) (h3 : H M = some (.lst (nsV ds))) (h4 : ds.length ≤ 20) (h5 : (∀ d ∈ ds, d < l.defs.length)) (h6 : ∀ (H' : Hp) (B : Addr), Same H H' → H B = none → LinksAt H' B l day ds → Q (.ref B) H') : Sp_links_of_bodies c vs H Q
def sp_links_of_bodies (c : Cl) : Sp := fun vs H Q _ => Sp_links_of_bodies c vs H Q
inductive LnkW (r : Rg) (l : Law) (day : Nat) (C M B : Addr) (ds : List Nat) (H : Hp) (i : Nat) (σ : L2.St) (H' : Hp) : Prop
  | mk (v4 : Option V) (kvs : List (Key × V)) (e : σ = [some (.ref r.a), some (.ref C), some (.ref M), some (.ref B), v4]) (s : Same H H') (hB : H' B = some (.dK kvs)) (hl : kvs.length ≤ i)
    (hv : ∀ d ∈ ds.take i, ∃ a, valV kvs (nK d) = some (.ref a) ∧ H' a = some (.lst (upsV (osOf l day (Si51.def_ l d).part (Si51.def_ l d).body)))) : LnkW r l day C M B ds H i σ H'
theorem ok_links_of_bodies {f : Addr} {fd : FuncData} (F : Fun K "links_of_bodies" "links_of_bodies" s_links_of_bodies f fd) (T : Txt K mg c) (D_definitions_in_body : FnD P w K mg base "definitions_in_body" 3 ["law", "counting", "number"] (sp_definitions_in_body c)) :
    FnOk P w K mg base CX0 4 f fd ["law", "counting", "numbers"] (sp_links_of_bodies c) := by
  refine F.ok sc_links_of_bodies (fun vs H Q E h => ?_) (fun cdv A outer s H vs Q E hr h => ?_)
  · obtain ⟨r, l, day, C, M, ds, rfl, _⟩ := h
    rfl
  · obtain ⟨r, l, day, C, M, ds, rfl, L, hC, hM, hlen, hlt, k⟩ := h
    have hu := hu_of hr
    refine ⟨_, (pss_cons (ps_set (i := 3) sc_links_of_bodies.nd rfl (by first | exact Or.inl rfl | exact Or.inr rfl) pe_dnewK)
      (pss_cons (ps_for PassesOwn.never rfl (pi_list (pv 2)) (pg_name (i := 4) sc_links_of_bodies.nd rfl (by first | exact Or.inl rfl | exact Or.inr rfl))
      (pss_one (ps_dput hu (pv 3) (pv 4) (pe_fn D_definitions_in_body (hr.mono (by decide)) rfl (pa_cons (pv 0) (pa_cons (pv 1) (pa_cons (pv 4) pa_nil)))) rfl)))
      (pss_one (ps_ret (pv 3))))), ?_⟩
    try dsimp only [cx_K]
    intro B hB
    have s1 : Same H (upd H B (.dK [])) := Same.new hB
    refine ⟨_, rfl, M, rfl, ⟨_, SqL.of (s1 _ _ hM)⟩, ?_⟩
    refine for_walk (walk_list K M (nsV ds)) (fun i σ H' => LnkW r l day C M B ds H i σ H')
      ⟨none, [], rfl, s1, upd_same, Nat.le_refl _, fun d hd => by simp at hd⟩ (fun i σ H' _ ⟨_, _, _, sm, _, _, _⟩ => SqL.of (sm _ _ hM)) ?_ ?_
    · rintro i x σ H1 H1' hi ⟨v4, kvs, rfl, sm, hBk, hkl, hval⟩ ⟨rfl, hx⟩
      obtain ⟨d, hd, rfl⟩ := nsV_get hx
      have hdl := hlt d (List.mem_of_getElem? hd)
      have L1 := L.same sm
      refine ⟨_, rfl, _, rfl, _, rfl, r, l, day, C, d, rfl, L1, hC.same sm, hdl, fun H2 A s2 hA hAl => ?_⟩
      have hBA : B ≠ A := fun z => by rw [z, hA] at hBk; cases hBk
      refine ⟨_, rfl, _, rfl, B, _, rfl, DPut.k (k := nK d) (s2 _ _ hBk) (small1000 (by rw [nsV_len] at hi; omega)), ?_⟩
      refine ⟨_, _, rfl, (sm.trans s2).upd hB, upd_same, Nat.le_trans (length_putK _ _ _) (Nat.succ_le_succ hkl), fun e he => ?_⟩
      rw [take_succ_get hd, List.mem_append] at he
      by_cases hed : e = d
      · subst hed
        exact ⟨A, by rw [valV_put, if_pos rfl], by rw [upd_ne (Ne.symm hBA)]; exact hAl⟩
      · rcases he with he | he
        · obtain ⟨a, h1, h2⟩ := hval e he
          have h2' := s2 _ _ h2
          refine ⟨a, by rw [valV_put, if_neg (fun z => hed (nK_inj z))]; exact h1, ?_⟩
          rw [upd_ne (ne_of h2' (s2 _ _ hBk) (by intro z; cases z))]
          exact h2'
        · exact absurd (by simpa using he) hed
    · rintro σ H1 ⟨v4, kvs, rfl, sm, hBk, hkl, hval⟩
      rw [nsV_len, List.take_length] at hval
      exact ⟨_, rfl, k H1 B sm hB ⟨kvs, hBk, hval⟩⟩
/-! ### spelled_bodies -/
abbrev s_spelled_bodies : Stmt := top 24
theorem sc_spelled_bodies : FnScope ["law", "counting", "numbers", "links", "spelled", "waiting", "ready", "number"] ["law", "counting", "numbers"] (defScope s_spelled_bodies) := ⟨rfl, rfl, rfl, by decide +kernel, rfl, by decide +kernel, by decide +kernel⟩
theorem blk_spelled_bodies_1 : BlkOk ["law", "counting", "numbers", "links", "spelled", "waiting", "ready", "number"] (defScope s_spelled_bodies) (lcS (subE (stAt s_spelled_bodies 3) 1)) [("number", 7)] := ⟨rfl, by decide +kernel, by decide +kernel, by decide +kernel, by decide +kernel⟩
theorem blk_spelled_bodies_2 : BlkOk ["law", "counting", "numbers", "links", "spelled", "waiting", "ready", "number"] (defScope s_spelled_bodies) (lcS (subE (subS (stAt s_spelled_bodies 4) 1) 1)) [("number", 7)] := ⟨rfl, by decide +kernel, by decide +kernel, by decide +kernel, by decide +kernel⟩
theorem blk_spelled_bodies_3 : BlkOk ["law", "counting", "numbers", "links", "spelled", "waiting", "ready", "number"] (defScope s_spelled_bodies) (lcS (subE (subS (stAt s_spelled_bodies 4) 2) 1)) [("number", 7)] := ⟨rfl, by decide +kernel, by decide +kernel, by decide +kernel, by decide +kernel⟩
/-- the dict of the bodies that are spelled out so far -/
structure SpD (H : Hp) (S : Addr) (l : Law) (day : Nat) (done : List Nat) (kvs : List (Key × V)) : Prop where
  at_ : H S = some (.dK kvs)
  len : kvs.length ≤ done.length
  not : ∀ d, d ∉ done → valV kvs (nK d) = none
  has : ∀ d ∈ done, HasBody H kvs l day d
  nd : done.Nodup
  sub : ∀ d ∈ done, d ∈ force l day
theorem SpD.same {H H' : Hp} {S : Addr} {l : Law} {day : Nat} {done : List Nat} {kvs : List (Key × V)} (h : SpD H S l day done kvs) (s : Same H H') : SpD H' S l day done kvs :=
  ⟨s _ _ h.at_, h.len, h.not, fun d hd => (h.has d hd).same s, h.nd, h.sub⟩
theorem SpD.isSome {H : Hp} {S : Addr} {l : Law} {day : Nat} {done : List Nat} {kvs : List (Key × V)} (h : SpD H S l day done kvs) (d : Nat) : (valV kvs (nK d)).isSome = decide (d ∈ done) := by
  by_cases hd : d ∈ done
  · obtain ⟨a, x, e, _⟩ := h.has d hd
    rw [e, decide_eq_true hd]
    rfl
  · rw [h.not d hd, decide_eq_false hd]
    rfl
theorem SpD.most {H : Hp} {S : Addr} {l : Law} {day : Nat} {done : List Nat} {kvs : List (Key × V)} (h : SpD H S l day done kvs) : done.length ≤ l.defs.length :=
  nodup_bound _ _ h.nd fun d hd => (mem_force.mp (h.sub d hd)).1
/-- a link that is none, or done -/
def linkDone (done : List Nat) (o : Option Nat) : Bool := match o with
  | none => true
  | some d => decide (d ∈ done)
theorem SpD.link {H : Hp} {S : Addr} {l : Law} {day : Nat} {done : List Nat} {kvs : List (Key × V)} (h : SpD H S l day done kvs) : linkIn kvs = linkDone done := by
  funext o
  cases o with
  | none => rfl
  | some d => exact h.isSome d
/-- all that the body leads to is done -/
def rdy (l : Law) (day : Nat) (done : List Nat) (d : Nat) : Bool := (osOf l day (Si51.def_ l d).part (Si51.def_ l d).body).all (linkDone done)
theorem rdy_has {l : Law} {day : Nat} {done : List Nat} {d : Nat} (h : rdy l day done d = true) {w e : Nat} (hw : w ∈ (Si51.def_ l d).body) (he : Si51.means l (Si51.def_ l d).part w day = some e) : e ∈ done := by
  unfold rdy osOf at h
  rw [List.all_eq_true] at h
  have := h (some e) (List.mem_map.mpr ⟨w, hw, he⟩)
  exact of_decide_eq_true this
theorem rdy_not {l : Law} {day : Nat} {done : List Nat} {d : Nat} (h : rdy l day done d = false) : ∃ w ∈ (Si51.def_ l d).body, ∃ e, Si51.means l (Si51.def_ l d).part w day = some e ∧ e ∉ done := by
  unfold rdy osOf at h
  rw [List.all_eq_false] at h
  obtain ⟨o, ho, hn⟩ := h
  obtain ⟨w, hw, e⟩ := List.mem_map.mp ho
  cases o with
  | none => exact absurd rfl hn
  | some x => exact ⟨w, hw, x, e, fun z => hn (decide_eq_true z)⟩
/-- those not yet done -/
def waits (l : Law) (day : Nat) (done : List Nat) : List Nat := (force l day).filter fun d => !decide (d ∈ done)
theorem mem_waits {l : Law} {day : Nat} {done : List Nat} {d : Nat} : d ∈ waits l day done ↔ d ∈ force l day ∧ d ∉ done := by
  unfold waits
  rw [List.mem_filter]
  simp
/-- every body of the day: spelled out, or in a circle -/
def SpelledAll (H : Hp) (S : Addr) (l : Law) (day : Nat) : Prop := ∃ kvs, H S = some (.dK kvs) ∧ ∀ d ∈ force l day, (bodyOf l day d = none ∧ valV kvs (nK d) = none) ∨ HasBody H kvs l day d
theorem SpelledAll.same {H H' : Hp} {S : Addr} {l : Law} {day : Nat} (h : SpelledAll H S l day) (s : Same H H') : SpelledAll H' S l day :=
  let ⟨k, a, b⟩ := h; ⟨k, s _ _ a, fun d hd => (b d hd).imp id fun z => z.same s⟩
theorem SpD.end_ {H : Hp} {S : Addr} {l : Law} {day : Nat} {done : List Nat} {kvs : List (Key × V)} (h : SpD H S l day done kvs) (hn : (waits l day done).filter (rdy l day done) = []) : SpelledAll H S l day := by
  refine ⟨kvs, h.at_, fun d hd => ?_⟩
  by_cases hdd : d ∈ done
  · exact .inr (h.has d hdd)
  · refine .inl ⟨bodyOf_trapped (S := fun d => d ∈ force l day ∧ d ∉ done) (fun e he => ?_) ⟨hd, hdd⟩, h.not d hdd⟩
    have hr : rdy l day done e = false := by
      rw [← Bool.not_eq_true]
      intro z
      have : e ∈ (waits l day done).filter (rdy l day done) := List.mem_filter.mpr ⟨mem_waits.mpr he, z⟩
      rw [hn] at this
      cases this
    obtain ⟨w, hw, x, hx, hxn⟩ := rdy_not hr
    exact ⟨w, hw, x, hx, means_force hx, hxn⟩
/-- the comprehension of those that are ready -/
theorem ready_lc {r : Rg} {l : Law} {day : Nat} {H1 : Hp} {B S Wt : Addr} {ws done : List Nat} {kvs : List (Key × V)} {x0 x1 x2 x5 x6 x7 : Option V} {Q : Addr → Hp → Prop} (good : Good l) (hB : LinksAt H1 B l day (force l day)) (hS : SpD H1 S l day done kvs) (hW : H1 Wt = some (.lst (nsV ws)))
    (hsub : ∀ d ∈ ws, d ∈ force l day) (hlen : ws.length ≤ 20) (fin : ∀ D H', Same H1 H' → H1 D = none → H' D = some (.lst (nsV (ws.filter (rdy l day done)))) → Q D H') :
    ∀ D, H1 D = none → ∃ W : Nat → Nat → Hp → Prop, (∃ m, W 0 m (upd H1 D (.lst []))) ∧ ∀ i m H, W i m H →
      ((Itl K Wt).stop i H ∧ Q D H) ∨ ((Itl K Wt).go i H ∧ ∃ Nx : Hp → Prop, (∀ H', Nx H' → ∃ m', m' < m ∧ W (i + 1) m' H') ∧ ∀ x H', (Itl K Wt).yld i H x H' → gName 7 x (wipe [x0, x1, x2, some (.ref B), some (.ref S), x5, x6, x7] [7]) H' fun σ2 H2 => wipe σ2 [7] = wipe [x0, x1, x2, some (.ref B), some (.ref S), x5, x6, x7] [7] ∧
        tB (tFn sp_all_spelled (tCons (tDGet (tVar 3) (tVar 7)) (tCons (tVar 4) tNil))) σ2 H2 fun b H3 =>
        if b = true then tVar 7 σ2 H3 fun y H4 => AccP D y H4 Nx else Nx H3) := by
  refine lc_walk (walk_list K Wt (nsV ws)) (fun i => (ws[i]?).bind fun d => if rdy l day done d = true then some (nV d) else none) (fun H' s => SqL.of (s _ _ hW)) ?_ ?_ ?_
  · rw [nsV_len]
    exact Nat.le_of_lt (small1000 (Nat.le_trans hlen (by decide)))
  · rintro i x H2 H2' hi sm ⟨rfl, hx⟩ Ny Nn h1 h2
    obtain ⟨d, hd, rfl⟩ := nsV_get hx
    obtain ⟨lk, hBk, hlk⟩ := hB.same sm
    have hdf := hsub d (List.mem_of_getElem? hd)
    obtain ⟨a, ea, ha⟩ := hlk d hdf
    have hdl := (mem_force.mp hdf).1
    refine ⟨rfl, ?_⟩
    refine ⟨_, rfl, _, rfl, B, _, rfl, (by rw [← ea]; exact DGet.k (k := nK d) hBk), _, rfl, a, S, _, kvs, rfl, ha, ?_, (hS.same sm).at_, fun H3 s3 => ⟨_, rfl, ?_⟩⟩
    · rw [show (osOf l day (Si51.def_ l d).part (Si51.def_ l d).body).length = (Si51.def_ l d).body.length from List.length_map ..]
      exact good.body _ (def_mem hdl)
    · rw [hS.link]
      cases hrd : rdy l day done d with
      | true =>
        rw [show (osOf l day (Si51.def_ l d).part (Si51.def_ l d).body).all (linkDone done) = true from hrd]
        exact iteT ⟨_, rfl, h1 _ _ s3 (by rw [hd]; show (if rdy l day done d = true then _ else _) = _; rw [if_pos hrd])⟩
      | false =>
        rw [show (osOf l day (Si51.def_ l d).part (Si51.def_ l d).body).all (linkDone done) = false from hrd]
        exact iteF (h2 _ s3 (by rw [hd]; show (if rdy l day done d = true then _ else _) = _; rw [if_neg (by rw [hrd]; decide)]))
  · intro D H' s hD e
    refine fin D H' s hD ?_
    rw [e]
    refine congrArg (fun q => some (HO.lst q)) ?_
    rw [nsV_len, range_fm (f := fun d => if rdy l day done d = true then some (nV d) else none) ws _ fun i x h => by rw [h]; rfl]
    exact fm_filter ws
inductive Sp_spelled_bodies (c : Cl) (vs : List V) (H : Hp) (Q : VK) : Prop
  | mk (r : Rg) (l : Law) (day : Nat) (C M : Addr) (h0 : vs = [.ref r.a, .ref C, .ref M]) (h1 : LawAt c r H l) (h2 : CountAt H C l day) (h3 : H M = some (.lst (nsV (force l day)))) (h4 : ∀ (H' : Hp) (S : Addr), Same H H' → H S = none → SpelledAll H' S l day → Q (.ref S) H') : Sp_spelled_bodies c vs H Q
def sp_spelled_bodies (c : Cl) : Sp := fun vs H Q _ => Sp_spelled_bodies c vs H Q
theorem filter_shorter {α : Type} {l : List α} {p : α → Bool} {x : α} (hx : x ∈ l) (h : p x = false) : (l.filter p).length < l.length := by
  rw [List.length_filter_lt_length_iff_exists]
  exact ⟨x, hx, by rw [h]; decide⟩
theorem waits_more {l : Law} {day : Nat} {a b : List Nat} : (waits l day a).filter (fun d => !decide (d ∈ a ++ b)) = waits l day (a ++ b) := by
  unfold waits
  rw [List.filter_filter]
  apply List.filter_congr
  intro d _
  by_cases h1 : d ∈ a
  · simp [h1]
  · simp [h1]
inductive SpbW (r : Rg) (l : Law) (day : Nat) (C M B S : Addr) (H2 : Hp) (σ : L2.St) (H' : Hp) : Prop
  | mk (Wt Rd : Addr) (done : List Nat) (kvs : List (Key × V)) (v7 : Option V) (e : σ = [some (.ref r.a), some (.ref C), some (.ref M), some (.ref B), some (.ref S), some (.ref Wt), some (.ref Rd), v7]) (s : Same H2 H') (hD : SpD H' S l day done kvs)
    (hW : H' Wt = some (.lst (nsV (waits l day done)))) (hR : H' Rd = some (.lst (nsV ((waits l day done).filter (rdy l day done))))) : SpbW r l day C M B S H2 σ H'
inductive SprW (r : Rg) (l : Law) (day : Nat) (C M B S Wt Rd : Addr) (H2 : Hp) (done ds : List Nat) (i : Nat) (σ : L2.St) (H' : Hp) : Prop
  | mk (kvs : List (Key × V)) (v7 : Option V) (e : σ = [some (.ref r.a), some (.ref C), some (.ref M), some (.ref B), some (.ref S), some (.ref Wt), some (.ref Rd), v7]) (s : Same H2 H') (hD : SpD H' S l day (done ++ ds.take i) kvs)
    (hW : H' Wt = some (.lst (nsV (waits l day done)))) (hR : H' Rd = some (.lst (nsV ds))) : SprW r l day C M B S Wt Rd H2 done ds i σ H'
theorem ok_spelled_bodies {f : Addr} {fd : FuncData} (F : Fun K "spelled_bodies" "spelled_bodies" s_spelled_bodies f fd) (T : Txt K mg c) (D_links_of_bodies : FnD P w K mg base "links_of_bodies" 4 ["law", "counting", "numbers"] (sp_links_of_bodies c))
    (D_all_spelled : FnD P w K mg base "all_spelled" 1 ["links", "spelled"] sp_all_spelled) (D_put_together : FnD P w K mg base "put_together" 1 ["words", "links", "spelled"] sp_put_together) :
    FnOk P w K mg base CX0 5 f fd ["law", "counting", "numbers"] (sp_spelled_bodies c) := by
  refine F.ok sc_spelled_bodies (fun vs H Q E h => ?_) (fun cdv A outer s H vs Q E hr h => ?_)
  · obtain ⟨r, l, day, C, M, rfl, _⟩ := h
    rfl
  · obtain ⟨r, l, day, C, M, rfl, L, hC, hM, k⟩ := h
    have hu := hu_of hr
    have hfl : (force l day).length ≤ 20 := Nat.le_trans force_len L.good.defs
    have hwl : ∀ done, (waits l day done).length ≤ 20 := fun done => Nat.le_trans (List.length_filter_le _ _) hfl
    refine ⟨_, (pss_cons (ps_set (i := 3) sc_spelled_bodies.nd rfl (by first | exact Or.inl rfl | exact Or.inr rfl) (pe_fn D_links_of_bodies (hr.mono (by decide)) rfl (pa_cons (pv 0) (pa_cons (pv 1) (pa_cons (pv 2) pa_nil)))))
      (pss_cons (ps_set (i := 4) sc_spelled_bodies.nd rfl (by first | exact Or.inl rfl | exact Or.inr rfl) pe_dnewK)
      (pss_cons (ps_set (i := 5) sc_spelled_bodies.nd rfl (by first | exact Or.inl rfl | exact Or.inr rfl) (pv 2))
      (pss_cons (ps_setLc (i := 6) (own := [("number", 7)]) rfl sc_spelled_bodies.nd rfl rfl (sw_true rfl rfl rfl rfl) (pi_list (pv 5)) blk_spelled_bodies_1 (fun _ _ _ _ _ => by exact (pg_name (i := 7) sc_spelled_bodies.nd rfl (by first | exact Or.inl rfl | exact Or.inr rfl))) (fun _ _ _ _ _ => by exact (pts_one (pt_val (pe_fn D_all_spelled (hr.mono (by decide)) rfl (pa_cons (pe_dget hu (pv 3) (pv 7) (fun _ _ => rfl)) (pa_cons (pv 4) pa_nil)))))) (fun _ _ _ _ _ => by exact (pv 7)))
      (pss_cons (ps_while PassesOwn.never (pt_truth (pv 6) (fun _ => rfl))
      (pss_cons (ps_for PassesOwn.never rfl (pi_list (pv 6)) (pg_name (i := 7) sc_spelled_bodies.nd rfl (by first | exact Or.inl rfl | exact Or.inr rfl))
        (pss_one (ps_dput hu (pv 4) (pv 7) (pe_fn D_put_together (hr.mono (by decide)) rfl (pa_cons (pe_fld (pe_ix ix_list (pe_fld (pv 0) rfl) (pv 7) (fun _ _ => rfl)) rfl) (pa_cons (pe_dget hu (pv 3) (pv 7) (fun _ _ => rfl)) (pa_cons (pv 4) pa_nil)))) rfl)))
        (pss_cons (ps_setLc (i := 5) (own := [("number", 7)]) rfl sc_spelled_bodies.nd rfl rfl (sw_true rfl rfl rfl rfl) (pi_list (pv 5)) blk_spelled_bodies_2 (fun _ _ _ _ _ => by exact (pg_name (i := 7) sc_spelled_bodies.nd rfl (by first | exact Or.inl rfl | exact Or.inr rfl))) (fun _ _ _ _ _ => by exact (pts_one (pt_cmp (pc_dnotin hu (pv 7) (pv 4))))) (fun _ _ _ _ _ => by exact (pv 7)))
        (pss_one (ps_setLc (i := 6) (own := [("number", 7)]) rfl sc_spelled_bodies.nd rfl rfl (sw_true rfl rfl rfl rfl) (pi_list (pv 5)) blk_spelled_bodies_3 (fun _ _ _ _ _ => by exact (pg_name (i := 7) sc_spelled_bodies.nd rfl (by first | exact Or.inl rfl | exact Or.inr rfl))) (fun _ _ _ _ _ => by exact (pts_one (pt_val (pe_fn D_all_spelled (hr.mono (by decide)) rfl (pa_cons (pe_dget hu (pv 3) (pv 7) (fun _ _ => rfl)) (pa_cons (pv 4) pa_nil)))))) (fun _ _ _ _ _ => by exact (pv 7)))))))
      (pss_one (ps_ret (pv 4)))))))), ?_⟩
    try dsimp only [cx_K]
    refine ⟨_, rfl, _, rfl, _, rfl, r, l, day, C, M, force l day, rfl, L, hC, hM, hfl, fun d hd => (mem_force.mp hd).1, fun H2 B s2 hBn hB => ?_⟩
    intro S hS
    have s3 : Same H2 (upd H2 S (.dK [])) := Same.new hS
    have hSn : H S = none := s2.free hS
    have D0 : SpD (upd H2 S (.dK [])) S l day [] [] := ⟨upd_same, Nat.le_refl _, fun d _ => rfl, fun d hd => (by cases hd), List.nodup_nil, fun d hd => (by cases hd)⟩
    have hM3 := s3 _ _ (s2 _ _ hM)
    refine ⟨_, rfl, ?_⟩
    refine ⟨_, rfl, M, rfl, ⟨_, SqL.of hM3⟩, ?_⟩
    refine ready_lc (r := r) (kvs := []) (done := []) L.good (hB.same s3) D0 hM3 (fun d hd => hd) hfl fun Rd H4 s4 hRd hRdl => ?_
    have w0 : waits l day [] = force l day := by
      unfold waits
      rw [List.filter_eq_self]
      intro a _
      simp
    dsimp only [gName]
    refine while_by (fun σ H' => SpbW r l day C M B S H2 σ H')
      (fun (σ : L2.St) (H' : Hp) => match σ[5]? with
        | some (some (V.ref a)) => (match H' a with
          | some (.lst xs) => xs.length
          | _ => 0)
        | _ => 0) ⟨M, Rd, [], [], none, rfl, s3.trans s4, D0.same s4, by rw [w0]; exact s4 _ _ hM3, by rw [w0]; exact hRdl⟩ ?_ ?_
    · rintro σ H5 ⟨Wt, Rd, done, kvs, v7, rfl, sm, hD, hWt, hRd⟩
      refine ⟨_, rfl, _, .inl ⟨_, SqL.of hRd, rfl⟩, ?_⟩
      cases hrl : (waits l day done).filter (rdy l day done) with
      | nil =>
        refine iteF ⟨_, rfl, ?_⟩
        exact k H5 S (s2.trans sm) hSn (hD.end_ hrl)
      | cons d0 rest =>
        refine iteT ?_
        rw [hrl] at hRd
        have hready : ∀ d ∈ d0 :: rest, d ∈ force l day ∧ d ∉ done ∧ rdy l day done d = true := fun d hd => by
          rw [← hrl] at hd
          have h1 := List.mem_filter.mp hd
          have h2 := mem_waits.mp h1.1
          exact ⟨h2.1, h2.2, h1.2⟩
        have hrnd : (d0 :: rest).Nodup := by
          rw [← hrl]
          exact (force_nodup.sublist List.filter_sublist).sublist List.filter_sublist
        refine ⟨_, rfl, Rd, rfl, ⟨_, SqL.of hRd⟩, ?_⟩
        refine for_walk (walk_list K Rd (nsV (d0 :: rest))) (fun i σ H' => SprW r l day C M B S Wt Rd H2 done (d0 :: rest) i σ H')
          ⟨kvs, v7, rfl, sm, by rw [List.take_zero, List.append_nil]; exact hD, hWt, hRd⟩ (fun i σ H' _ ⟨_, _, _, _, _, _, h⟩ => SqL.of h) ?_ ?_
        · rintro i x σ H6 H6' hi ⟨kvs, v7, rfl, sm, hD, hWt, hRd⟩ ⟨rfl, hx⟩
          obtain ⟨d, hd, rfl⟩ := nsV_get hx
          obtain ⟨hdf, hdn, hdr⟩ := hready d (List.mem_of_getElem? hd)
          have hdl := (mem_force.mp hdf).1
          have L6 := (L.same s2).same sm
          obtain ⟨lk, hBk, hlk⟩ := hB.same sm
          obtain ⟨la, ela, hla⟩ := hlk d hdf
          obtain ⟨p, dx, b, e1, e2, e3, e4⟩ := L6.defAt (def_get hdl)
          refine ⟨_, rfl, r.a, c.L, r.dx, _, _, rfl, L6.ins, T.clL, T.nL_defs, lF_defs, _, rfl, r.da, _, _, _, rfl, rfl, SqL.of L6.defs, at_nat e1, p, c.D, dx, _, _, rfl, e3, T.clD, T.nD_body, dF_body, ?_⟩
          refine ⟨_, rfl, _, rfl, B, _, rfl, (by rw [← ela]; exact DGet.k (k := nK d) hBk), _, rfl, ?_⟩
          refine ⟨l, day, (Si51.def_ l d).part, b, la, S, (Si51.def_ l d).body, kvs, rfl, e4, hla, L.good.body _ (def_mem hdl), hD.at_, fun w hw e he => hD.has e (List.mem_append_left _ (rdy_has hdr hw he)), fun H7 R x s7 hR hRl hsp => ?_⟩
          have hbd : bodyOf l day d = some x := by rw [bodyOf_spelled hdl]; exact hsp
          have hS7 := s7 _ _ hD.at_
          have hdnot : d ∉ done ++ (d0 :: rest).take i := fun z => by
            rcases List.mem_append.mp z with z | z
            · exact hdn z
            · obtain ⟨j, hj, e⟩ := List.getElem_of_mem z
              rw [List.length_take] at hj
              have hj2 : (d0 :: rest)[j]? = some d := by
                rw [List.getElem?_eq_getElem (by omega), ← e, List.getElem_take]
              have := nd_ix hrnd hj2 hd
              omega
          have hmost := hD.most
          refine ⟨_, rfl, _, rfl, S, _, rfl, DPut.k (k := nK d) hS7 (Nat.lt_of_le_of_lt hD.len (small1000 (Nat.le_trans hmost (Nat.le_trans L.good.defs (by decide))))), ?_⟩
          have hRS : R ≠ S := fun z => by rw [z, hD.at_] at hR; cases hR
          refine ⟨putK kvs (nK d) (.ref R), _, rfl, (sm.trans s7).upd hS, ?_, ?_, ?_⟩
          · rw [take_succ_get hd, ← List.append_assoc]
            refine ⟨upd_same, ?_, fun e he => ?_, fun e he => ?_, ?_, fun e he => ?_⟩
            · rw [List.length_append]
              exact Nat.le_trans (length_putK _ _ _) (Nat.succ_le_succ hD.len)
            · have h1 : e ≠ d := fun z => he (by rw [z]; simp)
              rw [valV_put, if_neg (fun z => h1 (nK_inj z))]
              exact hD.not e fun z => he (List.mem_append_left _ z)
            · by_cases hed : e = d
              · subst hed
                exact ⟨R, x, by rw [valV_put, if_pos rfl], by rw [upd_ne hRS]; exact hRl, hbd⟩
              · rcases List.mem_append.mp he with he | he
                · obtain ⟨a, y, h1, h2, h3⟩ := hD.has e he
                  have h2' := s7 _ _ h2
                  refine ⟨a, y, by rw [valV_put, if_neg (fun z => hed (nK_inj z))]; exact h1, ?_, h3⟩
                  rw [upd_ne (ne_of h2' hS7 (by intro z; cases z))]
                  exact h2'
                · exact absurd (by simpa using he) hed
            · exact nd_snoc hD.nd hdnot
            · rcases List.mem_append.mp he with he | he
              · exact hD.sub e he
              · have : e = d := by simpa using he
                subst this
                exact hdf
          · rw [upd_ne (ne_of (s7 _ _ hWt) hS7 (by intro z; cases z))]
            exact s7 _ _ hWt
          · rw [upd_ne (ne_of (s7 _ _ hRd) hS7 (by intro z; cases z))]
            exact s7 _ _ hRd
        · rintro σ H6 ⟨kvs, v7, rfl, sm, hD, hWt, hRd⟩
          rw [nsV_len, List.take_length] at hD
          -- waiting
          refine ⟨_, rfl, Wt, rfl, ⟨_, SqL.of hWt⟩, ?_⟩
          refine lc_walk (walk_list K Wt (nsV (waits l day done))) (fun i => ((waits l day done)[i]?).bind fun d => if (!decide (d ∈ done ++ (d0 :: rest))) = true then some (nV d) else none) (fun H' s => SqL.of (s _ _ hWt)) ?_ ?_ ?_
          · rw [nsV_len]
            exact Nat.le_of_lt (small1000 (Nat.le_trans (hwl _) (by decide)))
          · rintro i x H7 H7' hi s7 ⟨rfl, hx⟩ Ny Nn h1 h2
            obtain ⟨d, hd, rfl⟩ := nsV_get hx
            refine ⟨rfl, ?_⟩
            refine ⟨_, rfl, _, rfl, S, _, rfl, DGet.k (k := nK d) (s7 _ _ hD.at_), _, rfl, ?_⟩
            rw [hD.isSome d]
            refine ite2 (fun h => ?_) (fun h => ?_)
            · exact ⟨_, rfl, h1 _ _ (Same.refl _) (by rw [hd]; show (if _ then _ else _) = _; rw [if_pos h])⟩
            · exact h2 _ (Same.refl _) (by rw [hd]; show (if _ then _ else _) = _; rw [if_neg h])
          · intro Wt2 H7 s7 hWn e
            have e2 : H7 Wt2 = some (.lst (nsV (waits l day (done ++ (d0 :: rest))))) := by
              rw [e, nsV_len, range_fm (f := fun d => if (!decide (d ∈ done ++ (d0 :: rest))) = true then some (nV d) else none) (waits l day done) _ fun i x h => by rw [h]; rfl, fm_filter, waits_more]
              rfl
            -- ready
            refine ⟨_, rfl, Wt2, rfl, ⟨_, SqL.of e2⟩, ?_⟩
            refine ready_lc (r := r) L.good (hB.same (sm.trans s7)) (hD.same s7) e2 (fun d hd => (mem_waits.mp hd).1) (hwl _) fun Rd2 H8 s8 hRn hRl => ?_
            refine ⟨⟨Wt2, Rd2, done ++ (d0 :: rest), kvs, v7, rfl, (sm.trans s7).trans s8, (hD.same s7).same s8, s8 _ _ e2, hRl⟩, ?_⟩
            show (match H8 Wt2 with
              | some (.lst xs) => xs.length
              | _ => 0) < (match H5 Wt with
              | some (.lst xs) => xs.length
              | _ => 0)
            have h0 : d0 ∈ waits l day done := by
              have : d0 ∈ (waits l day done).filter (rdy l day done) := by rw [hrl]; simp
              exact (List.mem_filter.mp this).1
            have h5 : H5 Wt = some (.lst (nsV (waits l day done))) := by assumption
            rw [s8 _ _ e2, h5]
            show (nsV (waits l day (done ++ (d0 :: rest)))).length < (nsV (waits l day done)).length
            rw [nsV_len, nsV_len, ← waits_more]
            exact filter_shorter h0 (by simp)
    · intro σ H5 Q1 Q2 hQ h
      obtain ⟨v, e, b, e2, h⟩ := h
      exact ⟨v, e, b, e2, hQ _ _ h⟩
/-! ### spelled_out -/
abbrev s_spelled_out : Stmt := top 26
theorem sc_spelled_out : FnScope ["law", "part", "day", "words", "counting", "spelled", "links"] ["law", "part", "day", "words"] (defScope s_spelled_out) := ⟨rfl, rfl, rfl, by decide +kernel, rfl, by decide +kernel, by decide +kernel⟩
inductive Sp_spelled_out (c : Cl) (vs : List V) (H : Hp) (Q : VK) : Prop
  | mk (r : Rg) (l : Law) (p day : Nat) (W : Addr) (t : List Nat) (h0 : vs = [.ref r.a, nV p, nV day, .ref W]) (h1 : LawAt c r H l) (h2 : p < l.parts.length) (h3 : H W = some (.lst (nsV t))) (h4 : t.length ≤ 20) (h5 : (Si51.spelled l day p t = none → ∀ H', Same H H' → Q .non H')) (h6 : ∀ (x : List Nat), Si51.spelled l day p t = some x → ∀ (H' : Hp) (R : Addr), Same H H' → H R = none → H' R = some (.lst (nsV (x.take 1001))) → Q (.ref R) H') : Sp_spelled_out c vs H Q
def sp_spelled_out (c : Cl) : Sp := fun vs H Q _ => Sp_spelled_out c vs H Q
theorem links_all {H : Hp} {kvs : List (Key × V)} {l : Law} {day p : Nat} {t : List Nat} (h : ∀ d ∈ force l day, (bodyOf l day d = none ∧ valV kvs (nK d) = none) ∨ HasBody H kvs l day d) (ha : (osOf l day p t).all (linkIn kvs) = true) :
    ∀ w ∈ t, ∀ d, Si51.means l p w day = some d → HasBody H kvs l day d := fun w hw d hd => by
  rw [List.all_eq_true] at ha
  have h1 := ha (some d) (List.mem_map.mpr ⟨w, hw, hd⟩)
  rcases h d (means_force hd) with ⟨_, e⟩ | hb
  · have h1 : (valV kvs (nK d)).isSome = true := h1
    rw [e] at h1
    cases h1
  · exact hb
theorem links_not {H : Hp} {kvs : List (Key × V)} {l : Law} {day p : Nat} {t : List Nat} (h : ∀ d ∈ force l day, (bodyOf l day d = none ∧ valV kvs (nK d) = none) ∨ HasBody H kvs l day d) (ha : (osOf l day p t).all (linkIn kvs) = false) :
    Si51.spelled l day p t = none := by
  rw [List.all_eq_false] at ha
  obtain ⟨o, ho, hn⟩ := ha
  obtain ⟨w, hw, e⟩ := List.mem_map.mp ho
  cases o with
  | none => exact absurd rfl hn
  | some d =>
    rw [spelled_eq]
    refine Option.map_eq_none_iff.mpr (mapM_none_iff.mpr ⟨w, hw, ?_⟩)
    unfold wordOf
    rw [e]
    rcases h d (means_force e) with ⟨h1, _⟩ | ⟨a, x, h1, _⟩
    · exact h1
    · exact absurd (show (valV kvs (nK d)).isSome = true by rw [h1]; rfl) hn
theorem ok_spelled_out {f : Addr} {fd : FuncData} (F : Fun K "spelled_out" "spelled_out" s_spelled_out f fd) (T : Txt K mg c) (D_counting_on : FnD P w K mg base "counting_on" 3 ["law", "day"] (sp_counting_on c)) (D_numbers_in_force : FnD P w K mg base "numbers_in_force" 2 ["law", "day"] (sp_numbers_in_force c))
    (D_spelled_bodies : FnD P w K mg base "spelled_bodies" 5 ["law", "counting", "numbers"] (sp_spelled_bodies c)) (D_definitions_at : FnD P w K mg base "definitions_at" 2 ["law", "counting", "part", "words"] (sp_definitions_at c))
    (D_all_spelled : FnD P w K mg base "all_spelled" 1 ["links", "spelled"] sp_all_spelled) (D_put_together : FnD P w K mg base "put_together" 1 ["words", "links", "spelled"] sp_put_together) :
    FnOk P w K mg base CX0 6 f fd ["law", "part", "day", "words"] (sp_spelled_out c) := by
  refine F.ok sc_spelled_out (fun vs H Q E h => ?_) (fun cdv A outer s H vs Q E hr h => ?_)
  · obtain ⟨r, l, p, day, W, t, rfl, _⟩ := h
    rfl
  · obtain ⟨r, l, p, day, W, t, rfl, L, hp, hW, hlen, k0, k1⟩ := h
    refine ⟨_, (pss_cons (ps_set (i := 4) sc_spelled_out.nd rfl (by first | exact Or.inl rfl | exact Or.inr rfl) (pe_fn D_counting_on (hr.mono (by decide)) rfl (pa_cons (pv 0) (pa_cons (pv 2) pa_nil))))
      (pss_cons (ps_set (i := 5) sc_spelled_out.nd rfl (by first | exact Or.inl rfl | exact Or.inr rfl) (pe_fn D_spelled_bodies (hr.mono (by decide)) rfl (pa_cons (pv 0) (pa_cons (pv 4) (pa_cons (pe_fn D_numbers_in_force (hr.mono (by decide)) rfl (pa_cons (pv 0) (pa_cons (pv 2) pa_nil))) pa_nil)))))
      (pss_cons (ps_set (i := 6) sc_spelled_out.nd rfl (by first | exact Or.inl rfl | exact Or.inr rfl) (pe_fn D_definitions_at (hr.mono (by decide)) rfl (pa_cons (pv 0) (pa_cons (pv 4) (pa_cons (pv 1) (pa_cons (pv 3) pa_nil))))))
      (pss_cons (ps_if (pt_not (pt_val (pe_fn D_all_spelled (hr.mono (by decide)) rfl (pa_cons (pv 6) (pa_cons (pv 5) pa_nil)))))
      (pss_one (ps_ret pe_non))
      pss_nil)
      (pss_one (ps_ret (pe_fn D_put_together (hr.mono (by decide)) rfl (pa_cons (pv 3) (pa_cons (pv 6) (pa_cons (pv 5) pa_nil)))))))))), ?_⟩
    try dsimp only [cx_K]
    refine ⟨_, rfl, _, rfl, r, l, day, rfl, L, fun H1 C s1 hCn hC => ?_⟩
    refine ⟨_, rfl, _, rfl, _, rfl, _, rfl, r, l, day, rfl, L.same s1, fun H2 M s2 hMn hM => ?_⟩
    refine ⟨r, l, day, C, M, rfl, (L.same s1).same s2, hC.same s2, hM, fun H3 S s3 hSn hS => ?_⟩
    have s13 := (s1.trans s2).trans s3
    refine ⟨_, rfl, _, rfl, _, rfl, _, rfl, r, l, day, C, p, W, t, rfl, L.same s13, (hC.same s2).same s3, hp, s13 _ _ hW, hlen, fun H4 B s4 hBn hB => ?_⟩
    have s14 := s13.trans s4
    obtain ⟨kvs, hSk, hall⟩ := hS.same s4
    refine ⟨_, rfl, _, rfl, B, S, _, kvs, rfl, hB, ?_, hSk, fun H5 s5 => ⟨_, rfl, ?_⟩⟩
    · rw [show (osOf l day p t).length = t.length from List.length_map ..]
      exact hlen
    · cases ha : (osOf l day p t).all (linkIn kvs) with
      | false => exact iteT (k0 (links_not hall ha) H5 (s14.trans s5))
      | true =>
        refine iteF ?_
        refine ⟨_, rfl, _, rfl, _, rfl, l, day, p, W, B, S, t, kvs, rfl, s5 _ _ (s14 _ _ hW), s5 _ _ hB, hlen, s5 _ _ hSk, fun w hw d hd => (links_all hall ha w hw d hd).same s5, fun H6 R x s6 hR hRl hsp => ?_⟩
        exact k1 x hsp H6 R ((s14.trans s5).trans s6) ((s14.trans s5).free hR) hRl
end
end Lw

end

section
set_option Elab.async false
set_option linter.all false
set_option maxRecDepth 100000
namespace Lw
open PySem PySem.Spec PyProof.Rows L2
open Si51 (Law)
section
variable {P : Program} {w : World} {K : PySem.W.Frag} {mg : Str → Option Value} {base : Heap} {c : Cl}
/-! ### definitions_in_texts -/
abbrev s_definitions_in_texts : Stmt := top 16
theorem sc_definitions_in_texts : FnScope ["law", "counting", "found", "number", "part"] ["law", "counting"] (defScope s_definitions_in_texts) := ⟨rfl, rfl, rfl, by decide +kernel, rfl, by decide +kernel, by decide +kernel⟩
inductive Sp_definitions_in_texts (c : Cl) (vs : List V) (H : Hp) (Q : VK) : Prop
  | mk (r : Rg) (l : Law) (day : Nat) (C : Addr) (h0 : vs = [.ref r.a, .ref C]) (h1 : LawAt c r H l) (h2 : CountAt H C l day) (h3 : ∀ (H' : Hp) (B : Addr), Same H H' → H B = none → H' B = some (.lst (upsV (textsTo l day l.parts.length))) → Q (.ref B) H') : Sp_definitions_in_texts c vs H Q
def sp_definitions_in_texts (c : Cl) : Sp := fun vs H Q _ => Sp_definitions_in_texts c vs H Q
theorem nd_a {n i p m : Nat} (h : n ≤ 20 * i) (hi : i < p) (hp : p ≤ 15) (hm : m ≤ 20) : n + m ≤ 1000 := by omega
theorem nd_b {w d p b : Nat} (h : w + 1 ≤ 300 + 20 * d) (hd : d ≤ p) (hp : p ≤ 20) (hb : b ≤ 20) : w + b ≤ 1000 := by omega
theorem nd_c {w d p b : Nat} (hd : d + 1 ≤ p) (hp : p ≤ 20) (hb : b ≤ 20) : (20 - (d + 1)) * 21 + (w + b) < (20 - d) * 21 + (w + 1) := by omega
theorem nd_d {w d b : Nat} (h : w + 1 ≤ 300 + 20 * d) (hb : b ≤ 20) : w + b ≤ 300 + 20 * (d + 1) := by omega
theorem ok_definitions_in_texts {f : Addr} {fd : FuncData} (F : Fun K "definitions_in_texts" "definitions_in_texts" s_definitions_in_texts f fd) (T : Txt K mg c) (D_definitions_at : FnD P w K mg base "definitions_at" 2 ["law", "counting", "part", "words"] (sp_definitions_at c)) :
    FnOk P w K mg base CX0 3 f fd ["law", "counting"] (sp_definitions_in_texts c) := by
  refine F.ok sc_definitions_in_texts (fun vs H Q E h => ?_) (fun cdv A outer s H vs Q E hr h => ?_)
  · obtain ⟨r, l, day, C, rfl, _⟩ := h
    rfl
  · obtain ⟨r, l, day, C, rfl, L, hC, k⟩ := h
    refine ⟨_, (pss_cons (ps_set (i := 2) sc_definitions_in_texts.nd rfl (by first | exact Or.inl rfl | exact Or.inr rfl) (pe_lst pa_nil))
      (pss_cons (ps_for PassesOwn.never rfl (pi_enum (by rfl) T.b_enumerate (pa_cons (pe_fld (pv 0) rfl) pa_nil)) (pg_tup rfl (pgs_cons (pg_name (i := 3) sc_definitions_in_texts.nd rfl (by first | exact Or.inl rfl | exact Or.inr rfl)) (pgs_cons (pg_name (i := 4) sc_definitions_in_texts.nd rfl (by first | exact Or.inl rfl | exact Or.inr rfl)) pgs_nil)))
      (pss_one (ps_expr (pe_bm PySem.F.plainAttrs_list PySem.F.slot_list_extend PySem.F.type_list_extend mt_extend (pv 2) (pa_cons (pe_fn D_definitions_at (hr.mono (by decide)) rfl (pa_cons (pv 0) (pa_cons (pv 1) (pa_cons (pv 3) (pa_cons (pe_fld (pv 4) rfl) pa_nil))))) pa_nil)))))
      (pss_one (ps_ret (pv 2))))), ?_⟩
    try dsimp only [cx_K]
    refine ⟨Nat.zero_le _, fun G hG => ?_⟩
    have s1 : Same H (upd H G (.lst [])) := Same.new hG
    refine ⟨_, rfl, r.a, c.L, r.dx, _, _, rfl, (L.same s1).ins, T.clL, T.nL_parts, lF_parts, r.pa, _, rfl, SqL.of (L.same s1).parts, ?_⟩
    refine for_walk (walk_enum K r.pa (r.ps.map V.ref)) (fun i σ H' => ∃ (v3 v4 : Option V), σ = [some (.ref r.a), some (.ref C), some (.ref G), v3, v4] ∧ Same H H' ∧ H' G = some (.lst (upsV (textsTo l day i))))
      ⟨none, none, rfl, s1, upd_same⟩ (fun i σ H' _ ⟨_, _, _, sm, _⟩ => SqL.of (sm _ _ L.parts)) ?_ ?_
    · rintro i x σ H1 H1' hi ⟨v3, v4, rfl, sm, hGk⟩ ⟨tt, y, rfl, hT, rfl, hy⟩
      have hil : i < l.parts.length := by rw [List.length_map, L.pl] at hi; exact hi
      have hx := List.getElem?_eq_getElem hil
      have L1 := L.same sm
      obtain ⟨p, dx, wd, e1, e2, e3, e4⟩ := L1.partAt hx
      rw [e1] at hy
      obtain rfl : V.ref p = y := Option.some.inj hy
      have s2 : Same H1 (upd H1 tt (.tup [.int (i : Nat), .ref p])) := Same.new hT
      have sm2 := sm.trans s2
      have hlen := textsTo_len (day := day) L.good.text i (Nat.le_of_lt hil)
      have h15 := L.good.parts
      refine ⟨tt, _, rfl, SqT.of upd_same, rfl, _, _, rfl, _, _, rfl, rfl, ?_⟩
      refine ⟨_, rfl, .inl ⟨rfl, _, SqL.of (s2 _ _ hGk)⟩, _, rfl, _, rfl, _, rfl, _, rfl, p, c.P, dx, _, _, rfl, s2 _ _ e3, T.clP, T.nP_words, pF_words, ?_⟩
      refine ⟨r, l, day, C, i, wd, l.parts[i].text, rfl, L.same sm2, hC.same sm2, hil, s2 _ _ e4, L.good.text _ (List.getElem_mem hil), fun H2 A s3 hA hAl => ?_⟩
      refine ⟨G, A, _, _, rfl, rfl, s3 _ _ (s2 _ _ hGk), hAl, ?_, ?_⟩
      · rw [upsV_len, upsV_len, show (osOf l day i l.parts[i].text).length = l.parts[i].text.length from List.length_map ..]
        have := L.good.text _ (List.getElem_mem hil)
        exact Nat.le_of_lt (small1000 (nd_a hlen hil h15 this))
      · refine ⟨_, _, rfl, (sm2.trans s3).upd hG, ?_⟩
        rw [upd_same, textsTo_succ hx]
        refine congrArg (fun q => some (HO.lst q)) ?_
        unfold upsV
        rw [List.map_append]
        rfl
    · rintro σ H1 ⟨v3, v4, rfl, sm, hGk⟩
      rw [List.length_map, L.pl] at hGk
      exact ⟨_, rfl, k H1 G sm hG hGk⟩
/-! ### needed_on -/
abbrev s_needed_on : Stmt := top 17
theorem sc_needed_on : FnScope ["law", "day", "counting", "needed", "waiting", "number"] ["law", "day"] (defScope s_needed_on) := ⟨rfl, rfl, rfl, by decide +kernel, rfl, by decide +kernel, by decide +kernel⟩
def NeedAt (H : Hp) (N : Addr) (l : Law) (day : Nat) : Prop := ∃ kvs, H N = some (.dK kvs) ∧ ∀ d, (valV kvs (nK d)).isSome = decide (d ∈ Si51.used l day)
inductive Sp_needed_on (c : Cl) (vs : List V) (H : Hp) (Q : VK) : Prop
  | mk (r : Rg) (l : Law) (day : Nat) (h0 : vs = [.ref r.a, nV day]) (h1 : LawAt c r H l) (h2 : ∀ (H' : Hp) (N : Addr), Same H H' → H N = none → NeedAt H' N l day → Q (.ref N) H') : Sp_needed_on c vs H Q
def sp_needed_on (c : Cl) : Sp := fun vs H Q _ => Sp_needed_on c vs H Q
inductive NedW (r : Rg) (l : Law) (day : Nat) (C N Wt : Addr) (H1 : Hp) (m : Nat) (σ : L2.St) (H' : Hp) : Prop
  | mk (done : List Nat) (ws : List (Option Nat)) (kvs : List (Key × V)) (v5 : Option V) (hm : m = (20 - done.length) * 21 + ws.length) (e : σ = [some (.ref r.a), some (nV day), some (.ref C), some (.ref N), some (.ref Wt), v5]) (s : Same H1 H')
    (hN : H' N = some (.dK kvs)) (hW : H' Wt = some (.lst (upsV ws))) (hF : Found l day done ws) (hk : ∀ d, (valV kvs (nK d)).isSome = decide (d ∈ done)) (hl : kvs.length ≤ done.length) (hw : ws.length ≤ 300 + 20 * done.length) : NedW r l day C N Wt H1 m σ H'
theorem ok_needed_on {f : Addr} {fd : FuncData} (F : Fun K "needed_on" "needed_on" s_needed_on f fd) (T : Txt K mg c) (D_counting_on : FnD P w K mg base "counting_on" 3 ["law", "day"] (sp_counting_on c)) (D_definitions_in_texts : FnD P w K mg base "definitions_in_texts" 3 ["law", "counting"] (sp_definitions_in_texts c))
    (D_definitions_in_body : FnD P w K mg base "definitions_in_body" 3 ["law", "counting", "number"] (sp_definitions_in_body c)) : FnOk P w K mg base CX0 4 f fd ["law", "day"] (sp_needed_on c) := by
  refine F.ok sc_needed_on (fun vs H Q E h => ?_) (fun cdv A outer s H vs Q E hr h => ?_)
  · obtain ⟨r, l, day, rfl, _⟩ := h
    rfl
  · obtain ⟨r, l, day, rfl, L, k⟩ := h
    have hu := hu_of hr
    refine ⟨_, (pss_cons (ps_set (i := 2) sc_needed_on.nd rfl (by first | exact Or.inl rfl | exact Or.inr rfl) (pe_fn D_counting_on (hr.mono (by decide)) rfl (pa_cons (pv 0) (pa_cons (pv 1) pa_nil))))
      (pss_cons (ps_set (i := 3) sc_needed_on.nd rfl (by first | exact Or.inl rfl | exact Or.inr rfl) pe_dnewK)
      (pss_cons (ps_set (i := 4) sc_needed_on.nd rfl (by first | exact Or.inl rfl | exact Or.inr rfl) (pe_fn D_definitions_in_texts (hr.mono (by decide)) rfl (pa_cons (pv 0) (pa_cons (pv 2) pa_nil))))
      (pss_cons (ps_while PassesOwn.never (pt_truth (pv 4) (fun _ => rfl))
      (pss_cons (ps_set (i := 5) sc_needed_on.nd rfl (by first | exact Or.inl rfl | exact Or.inr rfl) (pe_bm0 PySem.F.plainAttrs_list PySem.F.slot_list_pop PySem.F.type_list_pop mt_pop (pv 4)))
        (pss_one (ps_if (PW.pt (pw_and (pt_cmp (pc_notN (pv 5))) (pw_and1 (pt_cmp (pc_dnotin hu (pv 5) (pv 3))))))
        (pss_cons (ps_dput hu (pv 3) (pv 5) pe_bl rfl)
          (pss_one (ps_expr (pe_bm PySem.F.plainAttrs_list PySem.F.slot_list_extend PySem.F.type_list_extend mt_extend (pv 4) (pa_cons (pe_fn D_definitions_in_body (hr.mono (by decide)) rfl (pa_cons (pv 0) (pa_cons (pv 2) (pa_cons (pv 5) pa_nil)))) pa_nil)))))
        pss_nil))))
      (pss_one (ps_ret (pv 3))))))), ?_⟩
    try dsimp only [cx_K]
    have h20 := L.good.defs
    have h15 := L.good.parts
    refine ⟨_, rfl, _, rfl, r, l, day, rfl, L, fun H1 C s1 hCn hC => ?_⟩
    intro N hN
    have s2 : Same H1 (upd H1 N (.dK [])) := Same.new hN
    refine ⟨_, rfl, _, rfl, r, l, day, C, rfl, (L.same s1).same s2, hC.same s2, fun H3 Wt s3 hWn hW => ?_⟩
    have hWn1 : H1 Wt = none := s2.free hWn
    have L1 := L.same s1
    refine ⟨fun m σ H' => NedW r l day C N Wt H1 m σ H',
      ⟨_, [], textsTo l day l.parts.length, [], none, rfl, rfl, s2.trans s3, s3 _ _ upd_same, hW, Found.start, fun d => rfl, Nat.le_refl _, ?_⟩, ?_⟩
    · have := textsTo_len (day := day) L.good.text l.parts.length (Nat.le_refl _)
      exact Nat.le_trans this (Nat.mul_le_mul_left 20 h15)
    rintro m σ H4 ⟨done, ws, kvs, v5, rfl, rfl, sm, hNk, hWk, hF, hkv, hkl, hwl⟩
    have hmost := hF.most
    refine ⟨_, rfl, _, .inl ⟨_, SqL.of hWk, rfl⟩, ?_⟩
    rcases List.eq_nil_or_concat ws with rfl | ⟨ws', o, rfl⟩
    · refine iteF ⟨_, rfl, ?_⟩
      refine k H4 N (s1.trans sm) (s1.free hN) ⟨kvs, hNk, fun d => ?_⟩
      rw [hkv]
      exact decide_eq_decide.mpr (hF.end_ d)
    · rw [List.concat_eq_append] at *
      refine ite2 (fun _ => ?_) (fun z => ?_)
      · have hup : upsV (ws' ++ [o]) = upsV ws' ++ [upV o] := by
          unfold upsV
          rw [List.map_append]
          rfl
        rw [hup] at hWk
        have hWN : Wt ≠ N := ne_of hWk hNk (by intro z; cases z)
        rw [List.length_append] at hwl
        have hl1 : ([o] : List (Option Nat)).length = 1 := rfl
        rw [hl1] at hwl
        refine ⟨fun σ' H' => ∃ m, m < (20 - done.length) * 21 + (ws' ++ [o]).length ∧ NedW r l day C N Wt H1 m σ' H', fun σ' H' h => h, ?_⟩
        refine ⟨_, rfl, .inl ⟨rfl, _, SqL.of hWk⟩, Wt, _, upV o, rfl, rfl, hWk, (by simp), ?_⟩
        rw [List.dropLast_concat]
        have smP : Same H1 (upd H4 Wt (.lst (upsV ws'))) := sm.upd hWn1
        have hNP : (upd H4 Wt (.lst (upsV ws'))) N = some (.dK kvs) := by rw [upd_ne (Ne.symm hWN)]; exact hNk
        -- a step that finds nothing new
        have skip : (∀ d, o = some d → d ∈ done) → ∀ v5' : Option V, ∃ m, m < (20 - done.length) * 21 + (ws' ++ [o]).length ∧ NedW r l day C N Wt H1 m [some (V.ref r.a), some (nV day), some (.ref C), some (.ref N), some (.ref Wt), v5'] (upd H4 Wt (.lst (upsV ws'))) := fun ho v5' =>
          ⟨_, by rw [List.length_append, hl1]; exact Nat.add_lt_add_left (Nat.lt_succ_self _) _, done, ws', kvs, v5', rfl, rfl, smP, hNP, upd_same, hF.skip ho, hkv, hkl, Nat.le_of_succ_le hwl⟩
        cases o with
        | none =>
          refine ⟨_, rfl, _, rfl, ?_⟩
          refine iteF (iteF ?_)
          exact skip (fun d z => by cases z) _
        | some n =>
          have hneed : Needed l day n := hF.wait n (by simp)
          have hnl := needed_lt hneed
          refine ⟨_, rfl, _, rfl, iteT ⟨_, rfl, _, rfl, N, _, rfl, DGet.k (k := nK n) hNP, _, rfl, ?_⟩⟩
          rw [hkv]
          by_cases hn : n ∈ done
          · rw [decide_eq_true hn]
            exact iteF (skip (fun d z => by cases z; exact hn) _)
          · rw [decide_eq_false hn]
            refine iteT ?_
            have hF2 := hF.add hn
            have hmost2 := hF2.most
            rw [List.length_append] at hmost2
            have hl2 : ([n] : List Nat).length = 1 := rfl
            rw [hl2] at hmost2
            refine ⟨_, rfl, _, rfl, N, _, rfl, DPut.k (k := nK n) hNP (Nat.lt_of_le_of_lt hkl (small1000 (Nat.le_trans hmost (Nat.le_trans h20 (by decide))))), ?_⟩
            have hN1 : H1 N = none := hN
            have smQ : Same H1 (upd (upd H4 Wt (.lst (upsV ws'))) N (.dK (putK kvs (nK n) (.bl true)))) := smP.upd hN1
            have hWQ : (upd (upd H4 Wt (.lst (upsV ws'))) N (.dK (putK kvs (nK n) (.bl true)))) Wt = some (.lst (upsV ws')) := by rw [upd_ne hWN, upd_same]
            refine ⟨_, rfl, .inl ⟨rfl, _, SqL.of hWQ⟩, _, rfl, _, rfl, _, rfl, r, l, day, C, n, rfl, L1.same smQ, hC.same smQ, hnl, fun H5 B s5 hB hBl => ?_⟩
            have hbody := L.good.body _ (def_mem hnl)
            have hosl : (osOf l day (Si51.def_ l n).part (Si51.def_ l n).body).length = (Si51.def_ l n).body.length := List.length_map ..
            refine ⟨Wt, B, _, _, rfl, rfl, s5 _ _ hWQ, hBl, ?_, ?_⟩
            · rw [upsV_len, upsV_len, hosl]
              exact Nat.le_of_lt (small1000 (nd_b hwl hmost h20 hbody))
            · refine ⟨_, ?_, done ++ [n], ws' ++ (Si51.def_ l n).body.map fun wd => Si51.means l (Si51.def_ l n).part wd day, putK kvs (nK n) (.bl true), _, rfl, rfl, (smQ.trans s5).upd hWn1, ?_, ?_, hF2, fun d => ?_, ?_, ?_⟩
              · rw [List.length_append, List.length_append, List.length_append, List.length_map, hl1, hl2]
                exact nd_c hmost2 h20 hbody
              · rw [upd_ne (Ne.symm hWN)]
                exact s5 _ _ upd_same
              · rw [upd_same]
                refine congrArg (fun q => some (HO.lst q)) ?_
                unfold upsV osOf
                rw [List.map_append]
              · rw [valV_put]
                by_cases hd : d = n
                · subst hd
                  rw [if_pos rfl]
                  simp
                · rw [if_neg (fun z => hd (nK_inj z)), hkv]
                  refine decide_eq_decide.mpr ?_
                  simp [hd]
              · rw [List.length_append, hl2]
                exact Nat.le_trans (length_putK _ _ _) (Nat.succ_le_succ hkl)
              · rw [List.length_append, List.length_append, List.length_map, hl2]
                exact nd_d hwl hbody
      · exact absurd (by simp [upsV]) z
/-! ### unused_on -/
abbrev s_unused_on : Stmt := top 18
theorem sc_unused_on : FnScope ["law", "day", "needed", "number"] ["law", "day"] (defScope s_unused_on) := ⟨rfl, rfl, rfl, by decide +kernel, rfl, by decide +kernel, by decide +kernel⟩
theorem blk_unused_on_1 : BlkOk ["law", "day", "needed", "number"] (defScope s_unused_on) (lcS (subE (stAt s_unused_on 1) 0)) [("number", 3)] := ⟨rfl, by decide +kernel, by decide +kernel, by decide +kernel, by decide +kernel⟩
theorem ok_unused_on {f : Addr} {fd : FuncData} (F : Fun K "unused_on" "unused_on" s_unused_on f fd) (T : Txt K mg c) (D_needed_on : FnD P w K mg base "needed_on" 4 ["law", "day"] (sp_needed_on c)) (D_numbers_in_force : FnD P w K mg base "numbers_in_force" 2 ["law", "day"] (sp_numbers_in_force c)) :
    FnOk P w K mg base CX0 5 f fd ["law", "day"] (sp_some c Si51.unused) := by
  refine F.ok sc_unused_on (fun vs H Q E h => ?_) (fun cdv A outer s H vs Q E hr h => ?_)
  · obtain ⟨r, l, day, rfl, _⟩ := h
    rfl
  · obtain ⟨r, l, day, rfl, L, k⟩ := h
    have hu := hu_of hr
    refine ⟨_, (pss_cons (ps_set (i := 2) sc_unused_on.nd rfl (by first | exact Or.inl rfl | exact Or.inr rfl) (pe_fn D_needed_on (hr.mono (by decide)) rfl (pa_cons (pv 0) (pa_cons (pv 1) pa_nil))))
      (pss_one (ps_ret (pe_lc (own := [("number", 3)]) rfl sc_unused_on.nd (pi_list (pe_fn D_numbers_in_force (hr.mono (by decide)) rfl (pa_cons (pv 0) (pa_cons (pv 1) pa_nil)))) blk_unused_on_1 (fun _ _ _ _ _ => by exact (pg_name (i := 3) sc_unused_on.nd rfl (by first | exact Or.inl rfl | exact Or.inr rfl))) (fun _ _ _ _ _ => by exact (pts_one (pt_cmp (pc_dnotin hu (pv 3) (pv 2))))) (fun _ _ _ _ _ => by exact (pv 3)))))), ?_⟩
    try dsimp only [cx_K]
    refine ⟨_, rfl, _, rfl, r, l, day, rfl, L, fun H1 N s1 hNn hN => ?_⟩
    obtain ⟨kvs, hNk, hkv⟩ := hN
    refine ⟨_, rfl, _, rfl, r, l, day, rfl, L.same s1, fun H2 M s2 hMn hM => ⟨M, rfl, ⟨_, SqL.of hM⟩, ?_⟩⟩
    have s12 := s1.trans s2
    refine lc_walk (walk_list K M (nsV (force l day))) (fun i => ((force l day)[i]?).bind fun d => if (!(Si51.used l day).contains d) = true then some (nV d) else none) (fun H' s => SqL.of (s _ _ hM)) ?_ ?_ ?_
    · rw [nsV_len]
      exact Nat.le_of_lt (small1000 (Nat.le_trans force_len (Nat.le_trans L.good.defs (by decide))))
    · rintro i x H3 H3' hi sm ⟨rfl, hx⟩ Ny Nn h1 h2
      obtain ⟨d, hd, rfl⟩ := nsV_get hx
      refine ⟨rfl, ?_⟩
      refine ⟨_, rfl, _, rfl, N, _, rfl, DGet.k (k := nK d) (sm _ _ (s2 _ _ hNk)), _, rfl, ?_⟩
      rw [hkv d, show decide (d ∈ Si51.used l day) = (Si51.used l day).contains d by rw [Bool.eq_iff_iff]; simp]
      refine ite2 (fun h => ?_) (fun h => ?_)
      · exact ⟨_, rfl, h1 _ _ (Same.refl _) (by rw [hd]; show (if _ then _ else _) = _; rw [if_pos h])⟩
      · exact h2 _ (Same.refl _) (by rw [hd]; show (if _ then _ else _) = _; rw [if_neg h])
    · intro D H' s hD e
      refine k H' D (s12.trans s) (s12.free hD) ?_
      rw [e]
      refine congrArg (fun q => some (HO.lst q)) ?_
      rw [nsV_len, range_fm (f := fun d => if (!(Si51.used l day).contains d) = true then some (nV d) else none) (force l day) _ fun i x h => by rw [h]; rfl, fm_filter, unused_eq]
      rfl
/-! ### leading_into_circles -/
abbrev s_leading_into_circles : Stmt := top 25
theorem sc_leading_into_circles : FnScope ["law", "day", "numbers", "spelled", "number"] ["law", "day"] (defScope s_leading_into_circles) := ⟨rfl, rfl, rfl, by decide +kernel, rfl, by decide +kernel, by decide +kernel⟩
theorem blk_leading_into_circles_1 : BlkOk ["law", "day", "numbers", "spelled", "number"] (defScope s_leading_into_circles) (lcS (subE (stAt s_leading_into_circles 2) 0)) [("number", 4)] := ⟨rfl, by decide +kernel, by decide +kernel, by decide +kernel, by decide +kernel⟩
theorem ok_leading_into_circles {f : Addr} {fd : FuncData} (F : Fun K "leading_into_circles" "leading_into_circles" s_leading_into_circles f fd) (T : Txt K mg c) (D_numbers_in_force : FnD P w K mg base "numbers_in_force" 2 ["law", "day"] (sp_numbers_in_force c)) (D_spelled_bodies : FnD P w K mg base "spelled_bodies" 5 ["law", "counting", "numbers"] (sp_spelled_bodies c))
    (D_counting_on : FnD P w K mg base "counting_on" 3 ["law", "day"] (sp_counting_on c)) : FnOk P w K mg base CX0 6 f fd ["law", "day"] (sp_some c Si51.circles) := by
  refine F.ok sc_leading_into_circles (fun vs H Q E h => ?_) (fun cdv A outer s H vs Q E hr h => ?_)
  · obtain ⟨r, l, day, rfl, _⟩ := h
    rfl
  · obtain ⟨r, l, day, rfl, L, k⟩ := h
    have hu := hu_of hr
    refine ⟨_, (pss_cons (ps_set (i := 2) sc_leading_into_circles.nd rfl (by first | exact Or.inl rfl | exact Or.inr rfl) (pe_fn D_numbers_in_force (hr.mono (by decide)) rfl (pa_cons (pv 0) (pa_cons (pv 1) pa_nil))))
      (pss_cons (ps_set (i := 3) sc_leading_into_circles.nd rfl (by first | exact Or.inl rfl | exact Or.inr rfl) (pe_fn D_spelled_bodies (hr.mono (by decide)) rfl (pa_cons (pv 0) (pa_cons (pe_fn D_counting_on (hr.mono (by decide)) rfl (pa_cons (pv 0) (pa_cons (pv 1) pa_nil))) (pa_cons (pv 2) pa_nil)))))
      (pss_one (ps_ret (pe_lc (own := [("number", 4)]) rfl sc_leading_into_circles.nd (pi_list (pv 2)) blk_leading_into_circles_1 (fun _ _ _ _ _ => by exact (pg_name (i := 4) sc_leading_into_circles.nd rfl (by first | exact Or.inl rfl | exact Or.inr rfl))) (fun _ _ _ _ _ => by exact (pts_one (pt_cmp (pc_dnotin hu (pv 4) (pv 3))))) (fun _ _ _ _ _ => by exact (pv 4))))))), ?_⟩
    try dsimp only [cx_K]
    refine ⟨_, rfl, _, rfl, r, l, day, rfl, L, fun H1 M s1 hMn hM => ?_⟩
    refine ⟨_, rfl, _, rfl, _, rfl, r, l, day, rfl, L.same s1, fun H2 C s2 hCn hC => ?_⟩
    refine ⟨_, rfl, r, l, day, C, M, rfl, (L.same s1).same s2, hC, s2 _ _ hM, fun H3 S s3 hSn hS => ?_⟩
    have s13 := (s1.trans s2).trans s3
    obtain ⟨kvs, hSk, hall⟩ := hS
    have hM3 := s3 _ _ (s2 _ _ hM)
    refine ⟨_, rfl, M, rfl, ⟨_, SqL.of hM3⟩, ?_⟩
    refine lc_walk (walk_list K M (nsV (force l day))) (fun i => ((force l day)[i]?).bind fun d => if (bodyOf l day d).isNone = true then some (nV d) else none) (fun H' s => SqL.of (s _ _ hM3)) ?_ ?_ ?_
    · rw [nsV_len]
      exact Nat.le_of_lt (small1000 (Nat.le_trans force_len (Nat.le_trans L.good.defs (by decide))))
    · rintro i x H4 H4' hi sm ⟨rfl, hx⟩ Ny Nn h1 h2
      obtain ⟨d, hd, rfl⟩ := nsV_get hx
      refine ⟨rfl, ?_⟩
      have e : (!(valV kvs (nK d)).isSome) = (bodyOf l day d).isNone := by
        rcases hall d (List.mem_of_getElem? hd) with ⟨e1, e2⟩ | ⟨a, y, e1, _, e2⟩
        · rw [e1, e2]; rfl
        · rw [e1, e2]; rfl
      refine ⟨_, rfl, _, rfl, S, _, rfl, DGet.k (k := nK d) (sm _ _ hSk), _, rfl, ?_⟩
      rw [e]
      refine ite2 (fun h => ?_) (fun h => ?_)
      · exact ⟨_, rfl, h1 _ _ (Same.refl _) (by rw [hd]; show (if _ then _ else _) = _; rw [if_pos h])⟩
      · exact h2 _ (Same.refl _) (by rw [hd]; show (if _ then _ else _) = _; rw [if_neg h])
    · intro D H' s hD e
      refine k H' D (s13.trans s) (s13.free hD) ?_
      rw [e]
      refine congrArg (fun q => some (HO.lst q)) ?_
      rw [nsV_len, range_fm (f := fun d => if (bodyOf l day d).isNone = true then some (nV d) else none) (force l day) _ fun i x h => by rw [h]; rfl, fm_filter, circles_eq]
      rfl
end
end Lw

end

section
set_option Elab.async false
set_option linter.all false
set_option maxRecDepth 100000
namespace Lw
open PySem PySem.Spec PyProof.Rows L2
open Si51 (Law)
theorem upd_upd {H : Hp} {a : Addr} {o u : HO} : upd (upd H a o) a u = upd H a u := by
  funext b
  unfold upd
  split <;> rfl
/-- a word as the document wants it -/
def wok (n : Nat) : Bool := decide (1 ≤ n) && decide (n ≤ 99999)
theorem wordsOk_eq (t : List Nat) : Si51.wordsOk t = (decide (t.length ≤ 20) && t.all wok) := rfl
theorem wok_not (n : Nat) : (!wok n) = (decide (n = 0) || decide (99999 < n)) := by
  unfold wok
  rw [Bool.eq_iff_iff]
  simp
theorem not_all {α : Type} (p : α → Bool) : ∀ (l : List α), (!l.all p) = l.any fun x => !p x
  | [] => rfl
  | a :: l => by rw [List.all_cons, List.any_cons, Bool.not_and, not_all p l]
section
variable {P : Program} {w : World} {K : PySem.W.Frag} {mg : Str → Option Value} {base : Heap} {c : Cl}
/-! ### wrong_word -/
abbrev s_wrong_word : Stmt := top 40
theorem sc_wrong_word : FnScope ["word"] ["word"] (defScope s_wrong_word) := ⟨rfl, rfl, rfl, by decide +kernel, rfl, by decide +kernel, by decide +kernel⟩
inductive Sp_wrong_word (vs : List V) (H : Hp) (Q : VK) : Prop
  | mk (n : Nat) (h0 : vs = [nV n]) (h1 : Q (.bl (!wok n)) H) : Sp_wrong_word vs H Q
def sp_wrong_word : Sp := fun vs H Q _ => Sp_wrong_word vs H Q
theorem ok_wrong_word {f : Addr} {fd : FuncData} (F : Fun K "wrong_word" "wrong_word" s_wrong_word f fd) (T : Txt K mg c) : FnOk P w K mg base CX0 1 f fd ["word"] sp_wrong_word := by
  refine F.ok sc_wrong_word (fun vs H Q E h => ?_) (fun cdv A outer s H vs Q E hr h => ?_)
  · obtain ⟨n, rfl, _⟩ := h
    rfl
  · obtain ⟨n, rfl, k⟩ := h
    rw [wok_not] at k
    refine ⟨_, (pss_one (ps_ret (pe_or (pe_cmp (pc_eqI (pv 0) pe_int)) (pe_one (pe_cmp (pc_gt (pv 0) (pe_gint rfl T.g_LAST_WORD))))))), ?_⟩
    try dsimp only [cx_K]
    refine ⟨_, rfl, _, _, rfl, rfl, _, rfl, ?_⟩
    refine ite2 (fun h => ?_) (fun h => ?_)
    · have h : (n : Int) = 0 := of_decide_eq_true h
      have h : n = 0 := by omega
      rw [decide_eq_true h] at k
      exact k
    · have h : ¬ (n : Int) = 0 := fun z => h (decide_eq_true z)
      have h : ¬ n = 0 := by omega
      rw [decide_eq_false h, Bool.false_or] at k
      refine ⟨_, rfl, _, _, rfl, rfl, ?_⟩
      show Q (.bl (decide ((99999 : Int) < (n : Int)))) H
      rw [show decide ((99999 : Int) < (n : Int)) = decide (99999 < n) from dlt 99999 n]
      exact k
/-! ### wrong_words -/
abbrev s_wrong_words : Stmt := top 41
theorem sc_wrong_words : FnScope ["words", "word"] ["words"] (defScope s_wrong_words) := ⟨rfl, rfl, rfl, by decide +kernel, rfl, by decide +kernel, by decide +kernel⟩
theorem blk_wrong_words_1 : BlkOk ["words", "word"] (defScope s_wrong_words) (lcS (kidE (kidE (subE (stAt s_wrong_words 0) 0) 1) 1)) [("word", 1)] := ⟨rfl, by decide +kernel, by decide +kernel, by decide +kernel, by decide +kernel⟩
inductive Sp_wrong_words (vs : List V) (H : Hp) (Q : VK) : Prop
  | mk (W : Addr) (t : List Nat) (h0 : vs = [.ref W]) (h1 : H W = some (.lst (nsV t))) (h2 : ∀ H', Same H H' → Q (.bl (!Si51.wordsOk t)) H') : Sp_wrong_words vs H Q
def sp_wrong_words : Sp := fun vs H Q _ => Sp_wrong_words vs H Q
theorem ok_wrong_words {f : Addr} {fd : FuncData} (F : Fun K "wrong_words" "wrong_words" s_wrong_words f fd) (T : Txt K mg c) (D_wrong_word : FnD P w K mg base "wrong_word" 1 ["word"] sp_wrong_word) : FnOk P w K mg base CX0 2 f fd ["words"] sp_wrong_words := by
  refine F.ok sc_wrong_words (fun vs H Q E h => ?_) (fun cdv A outer s H vs Q E hr h => ?_)
  · obtain ⟨W, t, rfl, _⟩ := h
    rfl
  · obtain ⟨W, t, rfl, hW, k⟩ := h
    refine ⟨_, (pss_one (ps_ret (pe_or (pe_cmp (pc_gt (pe_callB call_len_seq (by rfl) T.b_len PySem.boot_len (pa_cons (pv 0) pa_nil)) (pe_gint rfl T.g_MOST_WORDS))) (pe_one (pe_callB (call_any rfl) (by rfl) T.b_any boot_any (pa_cons (pe_lc (own := [("word", 1)]) rfl sc_wrong_words.nd (pi_list (pv 0)) blk_wrong_words_1 (fun _ _ _ _ _ => by exact (pg_name (i := 1) sc_wrong_words.nd rfl (by first | exact Or.inl rfl | exact Or.inr rfl))) (fun _ _ _ _ _ => by exact pts_nil) (fun _ _ _ _ _ => by exact (pe_fn D_wrong_word (hr.mono (by decide)) rfl (pa_cons (pv 1) pa_nil)))) pa_nil)))))), ?_⟩
    try dsimp only [cx_K]
    refine ⟨_, rfl, W, _, rfl, .inl (SqL.of hW), _, _, rfl, rfl, _, rfl, ?_⟩
    refine ite2 (fun h => ?_) (fun h => ?_)
    · have h : (20 : Int) < ((nsV t).length : Int) := of_decide_eq_true h
      rw [nsV_len] at h
      have := k H (Same.refl _)
      rw [wordsOk_eq, decide_eq_false (by omega)] at this
      exact this
    · have h : ¬ (20 : Int) < ((nsV t).length : Int) := fun z => h (decide_eq_true z)
      rw [nsV_len] at h
      refine ⟨_, rfl, W, rfl, ⟨_, SqL.of hW⟩, ?_⟩
      refine lc_walk (walk_list K W (nsV t)) (fun i => (t[i]?).map fun n => V.bl (!wok n)) (fun H' s => SqL.of (s _ _ hW)) ?_ ?_ ?_
      · rw [nsV_len]
        exact Nat.le_of_lt (small1000 (by omega))
      · rintro i x H1 H2 hi sm ⟨rfl, hx⟩ Ny Nn h1 h2
        obtain ⟨n, hn, rfl⟩ := nsV_get hx
        refine ⟨rfl, yes ?_⟩
        exact ⟨_, rfl, n, rfl, h1 _ _ (Same.refl _) (by rw [hn]; rfl)⟩
      · intro B' H' s hB' e
        have e2 : (List.range (nsV t).length).filterMap (fun i => (t[i]?).map fun n => V.bl (!wok n)) = (t.map fun n => !wok n).map V.bl := by
          rw [nsV_len, List.map_map]
          exact range_fmM t _ fun i x h => by rw [h]; rfl
        rw [e2] at e
        refine ⟨B', _, rfl, SqL.of e, ?_⟩
        have e3 : (t.map fun n => !wok n).any id = !Si51.wordsOk t := by
          rw [wordsOk_eq, decide_eq_true (by omega), Bool.true_and, not_all, List.any_map]
          rfl
        rw [e3]
        exact k H' s
/-! ### wrong_end, wrong_days -/
abbrev s_wrong_end : Stmt := top 42
theorem sc_wrong_end : FnScope ["since", "until"] ["since", "until"] (defScope s_wrong_end) := ⟨rfl, rfl, rfl, by decide +kernel, rfl, by decide +kernel, by decide +kernel⟩
inductive Sp_wrong_end (vs : List V) (H : Hp) (Q : VK) : Prop
  | mk (a b : Nat) (h0 : vs = [nV a, nV b]) (h1 : Q (.bl (decide (b ≤ a) || decide (99999 < b))) H) : Sp_wrong_end vs H Q
def sp_wrong_end : Sp := fun vs H Q _ => Sp_wrong_end vs H Q
theorem ok_wrong_end {f : Addr} {fd : FuncData} (F : Fun K "wrong_end" "wrong_end" s_wrong_end f fd) (T : Txt K mg c) : FnOk P w K mg base CX0 1 f fd ["since", "until"] sp_wrong_end := by
  refine F.ok sc_wrong_end (fun vs H Q E h => ?_) (fun cdv A outer s H vs Q E hr h => ?_)
  · obtain ⟨a, b, rfl, _⟩ := h
    rfl
  · obtain ⟨a, b, rfl, k⟩ := h
    refine ⟨_, (pss_one (ps_ret (pe_or (pe_cmp (pc_le (pv 1) (pv 0))) (pe_one (pe_cmp (pc_gt (pv 1) (pe_gint rfl T.g_LAST_DAY))))))), ?_⟩
    try dsimp only [cx_K]
    refine ⟨_, rfl, _, rfl, _, _, rfl, rfl, _, rfl, ?_⟩
    refine ite2 (fun h => ?_) (fun h => ?_)
    · have h : (b : Int) ≤ (a : Int) := of_decide_eq_true h
      rw [decide_eq_true (by omega)] at k
      exact k
    · have h : ¬ (b : Int) ≤ (a : Int) := fun z => h (decide_eq_true z)
      rw [decide_eq_false (by omega), Bool.false_or] at k
      refine ⟨_, rfl, _, _, rfl, rfl, ?_⟩
      show Q (.bl (decide ((99999 : Int) < (b : Int)))) H
      rw [show decide ((99999 : Int) < (b : Int)) = decide (99999 < b) from dlt 99999 b]
      exact k
abbrev s_wrong_days : Stmt := top 43
theorem sc_wrong_days : FnScope ["since", "until"] ["since", "until"] (defScope s_wrong_days) := ⟨rfl, rfl, rfl, by decide +kernel, rfl, by decide +kernel, by decide +kernel⟩
def wdays (a b : Nat) : Bool := decide (99999 < a) || (!decide (b = 0) && (decide (b ≤ a) || decide (99999 < b)))
inductive Sp_wrong_days (vs : List V) (H : Hp) (Q : VK) : Prop
  | mk (a b : Nat) (h0 : vs = [nV a, nV b]) (h1 : Q (.bl (wdays a b)) H) : Sp_wrong_days vs H Q
def sp_wrong_days : Sp := fun vs H Q _ => Sp_wrong_days vs H Q
theorem ok_wrong_days {f : Addr} {fd : FuncData} (F : Fun K "wrong_days" "wrong_days" s_wrong_days f fd) (T : Txt K mg c) (D_wrong_end : FnD P w K mg base "wrong_end" 1 ["since", "until"] sp_wrong_end) : FnOk P w K mg base CX0 2 f fd ["since", "until"] sp_wrong_days := by
  refine F.ok sc_wrong_days (fun vs H Q E h => ?_) (fun cdv A outer s H vs Q E hr h => ?_)
  · obtain ⟨a, b, rfl, _⟩ := h
    rfl
  · obtain ⟨a, b, rfl, k⟩ := h
    unfold wdays at k
    refine ⟨_, (pss_cons (ps_if (pt_cmp (pc_gt (pv 0) (pe_gint rfl T.g_LAST_DAY)))
      (pss_one (ps_ret pe_bl))
      pss_nil)
      (pss_one (ps_ret (pe_and (pe_cmp (pc_neI (pv 1) (pe_gint rfl T.g_WITHOUT_END))) (pe_one (pe_fn D_wrong_end (hr.mono (by decide)) rfl (pa_cons (pv 0) (pa_cons (pv 1) pa_nil)))))))), ?_⟩
    try dsimp only [cx_K]
    refine ⟨_, rfl, _, _, rfl, rfl, _, rfl, ?_⟩
    refine ite2 (fun h => ?_) (fun h => ?_)
    · have h : (99999 : Int) < (a : Int) := of_decide_eq_true h
      rw [decide_eq_true (by omega)] at k
      exact k
    · have h : ¬ (99999 : Int) < (a : Int) := fun z => h (decide_eq_true z)
      rw [decide_eq_false (show ¬ 99999 < a by omega), Bool.false_or] at k
      refine ⟨_, rfl, _, _, rfl, rfl, _, rfl, ?_⟩
      refine ite2 (fun h => ?_) (fun h => ?_)
      · have h : (!decide ((b : Int) = 0)) = true := h
        have h : ¬ b = 0 := fun z => by rw [z] at h; exact absurd h (by decide)
        rw [decide_eq_false h] at k
        exact ⟨_, rfl, _, rfl, a, b, rfl, k⟩
      · have h : ¬ (!decide ((b : Int) = 0)) = true := h
        have h : b = 0 := by
          simp at h
          exact h
        rw [decide_eq_true h] at k
        exact k
/-! ### renamed -/
abbrev s_renamed : Stmt := top 45
theorem sc_renamed : FnScope ["words", "old", "new", "word"] ["words", "old", "new"] (defScope s_renamed) := ⟨rfl, rfl, rfl, by decide +kernel, rfl, by decide +kernel, by decide +kernel⟩
theorem blk_renamed_1 : BlkOk ["words", "old", "new", "word"] (defScope s_renamed) (lcS (subE (stAt s_renamed 0) 0)) [("word", 3)] := ⟨rfl, by decide +kernel, by decide +kernel, by decide +kernel, by decide +kernel⟩
def ren (a b w : Nat) : Nat := if w = a then b else w
inductive Sp_renamed (vs : List V) (H : Hp) (Q : VK) : Prop
  | mk (W : Addr) (t : List Nat) (a b : Nat) (h0 : vs = [.ref W, nV a, nV b]) (h1 : H W = some (.lst (nsV t))) (h2 : t.length ≤ 1000) (h3 : ∀ H' R, Same H H' → H R = none → H' R = some (.lst (nsV (t.map (ren a b)))) → Q (.ref R) H') : Sp_renamed vs H Q
def sp_renamed : Sp := fun vs H Q _ => Sp_renamed vs H Q
theorem ok_renamed {f : Addr} {fd : FuncData} (F : Fun K "renamed" "renamed" s_renamed f fd) (T : Txt K mg c) : FnOk P w K mg base CX0 1 f fd ["words", "old", "new"] sp_renamed := by
  refine F.ok sc_renamed (fun vs H Q E h => ?_) (fun cdv A outer s H vs Q E hr h => ?_)
  · obtain ⟨W, t, a, b, rfl, _⟩ := h
    rfl
  · obtain ⟨W, t, a, b, rfl, hW, hlen, k⟩ := h
    refine ⟨_, (pss_one (ps_ret (pe_lc (own := [("word", 3)]) rfl sc_renamed.nd (pi_list (pv 0)) blk_renamed_1 (fun _ _ _ _ _ => by exact (pg_name (i := 3) sc_renamed.nd rfl (by first | exact Or.inl rfl | exact Or.inr rfl))) (fun _ _ _ _ _ => by exact pts_nil) (fun _ _ _ _ _ => by exact (pe_ifExp (pt_cmp (pc_eqI (pv 3) (pv 1))) (pv 2) (pv 3)))))), ?_⟩
    try dsimp only [cx_K]
    refine ⟨_, rfl, W, rfl, ⟨_, SqL.of hW⟩, ?_⟩
    refine lc_walk (walk_list K W (nsV t)) (fun i => (t[i]?).map fun n => nV (ren a b n)) (fun H' s => SqL.of (s _ _ hW)) ?_ ?_ ?_
    · rw [nsV_len]
      exact Nat.le_of_lt (small1000 hlen)
    · rintro i x H1 H2 hi sm ⟨rfl, hx⟩ Ny Nn h1 h2
      obtain ⟨n, hn, rfl⟩ := nsV_get hx
      refine ⟨rfl, yes ?_⟩
      refine ⟨_, rfl, _, rfl, _, _, rfl, rfl, _, rfl, ?_⟩
      refine ite2 (fun h => ?_) (fun h => ?_)
      · have h : (n : Int) = (a : Int) := of_decide_eq_true h
        exact ⟨_, rfl, h1 _ _ (Same.refl _) (by rw [hn]; show some (nV (ren a b n)) = _; unfold ren; rw [if_pos (by omega)])⟩
      · have h : ¬ (n : Int) = (a : Int) := fun z => h (decide_eq_true z)
        exact ⟨_, rfl, h1 _ _ (Same.refl _) (by rw [hn]; show some (nV (ren a b n)) = _; unfold ren; rw [if_neg (by omega)])⟩
    · intro R H' s hR e
      refine k H' R s hR ?_
      rw [e]
      refine congrArg (fun q => some (HO.lst q)) ?_
      unfold nsV
      rw [List.length_map, List.map_map]
      exact range_fmM t _ fun i x h => by rw [h]; rfl
/-! ### stands_somewhere -/
abbrev s_stands_somewhere : Stmt := top 44
theorem sc_stands_somewhere : FnScope ["law", "word", "part", "definition"] ["law", "word"] (defScope s_stands_somewhere) := ⟨rfl, rfl, rfl, by decide +kernel, rfl, by decide +kernel, by decide +kernel⟩
inductive Sp_stands_somewhere (c : Cl) (vs : List V) (H : Hp) (Q : VK) : Prop
  | mk (r : Rg) (l : Law) (n : Nat) (h0 : vs = [.ref r.a, nV n]) (h1 : LawAt c r H l) (h2 : Q (.bl (Si51.stands l n)) H) : Sp_stands_somewhere c vs H Q
def sp_stands_somewhere (c : Cl) : Sp := fun vs H Q _ => Sp_stands_somewhere c vs H Q
theorem flat_nsV : ∀ (t : List Nat), (nsV t).all flatV = true
  | [] => rfl
  | _ :: t => flat_nsV t
theorem in_nsV (n : Nat) : ∀ (t : List Nat), inV (nV n) (nsV t) = t.contains n
  | [] => rfl
  | x :: t => by
    have ih := in_nsV n t
    unfold inV at ih ⊢
    show (eqV (nV x) (nV n) || (nsV t).any fun y => eqV y (nV n)) = _
    rw [ih, List.contains_cons]
    have e : eqV (nV x) (nV n) = (n == x) := by
      show ((x : Int) == (n : Int)) = (n == x)
      rw [Bool.eq_iff_iff]
      simp
      omega
    rw [e]
theorem any_take_succ {α : Type} {p : α → Bool} {l : List α} {i : Nat} {x : α} (h : l[i]? = some x) : (l.take (i + 1)).any p = ((l.take i).any p || p x) := by
  rw [take_succ_get h, List.any_append]
  simp
theorem any_of_get {α : Type} {p : α → Bool} {l : List α} {i : Nat} {x : α} (h : l[i]? = some x) (hp : p x = true) : l.any p = true := List.any_eq_true.mpr ⟨x, List.mem_of_getElem? h, hp⟩
theorem ok_stands_somewhere {f : Addr} {fd : FuncData} (F : Fun K "stands_somewhere" "stands_somewhere" s_stands_somewhere f fd) (T : Txt K mg c) : FnOk P w K mg base CX0 1 f fd ["law", "word"] (sp_stands_somewhere c) := by
  refine F.ok sc_stands_somewhere (fun vs H Q E h => ?_) (fun cdv A outer s H vs Q E hr h => ?_)
  · obtain ⟨r, l, n, rfl, _⟩ := h
    rfl
  · obtain ⟨r, l, n, rfl, L, k⟩ := h
    unfold Si51.stands at k
    refine ⟨_, (pss_cons (ps_for PassesOwn.never rfl (pi_list (pe_fld (pv 0) rfl)) (pg_name (i := 2) sc_stands_somewhere.nd rfl (by first | exact Or.inl rfl | exact Or.inr rfl))
      (pss_one (ps_if (pt_cmp (pc_inL (pv 1) (pe_fld (pv 2) rfl)))
        (pss_one (ps_ret pe_bl))
        pss_nil)))
      (pss_cons (ps_for PassesOwn.never rfl (pi_list (pe_fld (pv 0) rfl)) (pg_name (i := 3) sc_stands_somewhere.nd rfl (by first | exact Or.inl rfl | exact Or.inr rfl))
      (pss_one (ps_if (pw_or (pt_cmp (pc_eqI (pv 1) (pe_fld (pv 3) rfl))) (pw_or1 (pt_cmp (pc_inL (pv 1) (pe_fld (pv 3) rfl))))).pt
        (pss_one (ps_ret pe_bl))
        pss_nil)))
      (pss_one (ps_ret pe_bl)))), ?_⟩
    try dsimp only [cx_K]
    refine ⟨_, rfl, r.a, c.L, r.dx, _, _, rfl, L.ins, T.clL, T.nL_parts, lF_parts, r.pa, rfl, ⟨_, SqL.of L.parts⟩, ?_⟩
    refine for_walk (walk_list K r.pa (r.ps.map V.ref)) (fun i σ H' => ∃ (v2 v3 : Option V), σ = [some (.ref r.a), some (nV n), v2, v3] ∧ H' = H ∧ (l.parts.take i).any (fun p => p.text.contains n) = false)
      ⟨none, none, rfl, rfl, rfl⟩ (fun i σ H' _ ⟨_, _, _, e, _⟩ => by rw [e]; exact SqL.of L.parts) ?_ ?_
    · rintro i x σ H1 H1' hi ⟨v2, v3, rfl, rfl, hno⟩ ⟨rfl, hx⟩
      have hil : i < l.parts.length := by rw [List.length_map, L.pl] at hi; exact hi
      have hxp := List.getElem?_eq_getElem hil
      obtain ⟨p, dx, b, e1, e2, e3, e4⟩ := L.partAt hxp
      rw [e1] at hx
      obtain rfl := Option.some.inj hx
      refine ⟨_, rfl, _, rfl, p, c.P, dx, _, _, rfl, e3, T.clP, T.nP_words, pF_words, b, _, rfl, .inl (SqL.of e4), rfl, flat_nsV _, _, rfl, ?_⟩
      show if inV (nV n) (nsV l.parts[i].text) = true then _ else _
      rw [in_nsV]
      refine ite2 (fun h => ?_) (fun h => ?_)
      · have e := any_of_get (p := fun p : Si51.Part => p.text.contains n) hxp h
        rw [e] at k
        exact k
      · refine ⟨_, _, rfl, rfl, ?_⟩
        rw [any_take_succ hxp, hno, Bool.false_or]
        exact Bool.eq_false_iff.mpr h
    · rintro σ H1 ⟨v2, v3, rfl, rfl, hno⟩
      rw [List.length_map, L.pl, List.take_length] at hno
      rw [hno, Bool.false_or] at k
      refine ⟨_, rfl, r.a, c.L, r.dx, _, _, rfl, L.ins, T.clL, T.nL_defs, lF_defs, r.da, rfl, ⟨_, SqL.of L.defs⟩, ?_⟩
      refine for_walk (walk_list K r.da (r.ds.map V.ref)) (fun i σ H' => ∃ (v2 v3 : Option V), σ = [some (.ref r.a), some (nV n), v2, v3] ∧ H' = H1 ∧ (l.defs.take i).any (fun d => d.word == n || d.body.contains n) = false)
        ⟨_, _, rfl, rfl, rfl⟩ (fun i σ H' _ ⟨_, _, _, e, _⟩ => by rw [e]; exact SqL.of L.defs) ?_ ?_
      · rintro i x σ H2 H2' hi ⟨v2, v3, rfl, rfl, hno⟩ ⟨rfl, hx⟩
        have hil : i < l.defs.length := by rw [List.length_map, L.dl] at hi; exact hi
        have hxp := List.getElem?_eq_getElem hil
        obtain ⟨p, dx, b, e1, e2, e3, e4⟩ := L.defAt hxp
        rw [e1] at hx
        obtain rfl := Option.some.inj hx
        refine ⟨_, rfl, _, rfl, p, c.D, dx, _, _, rfl, e3, T.clD, T.nD_word, dF_word, _, _, rfl, rfl, _, rfl, ?_⟩
        refine ite2 (fun h => ?_) (fun h => ?_)
        · have h : (n : Int) = (l.defs[i].word : Int) := of_decide_eq_true h
          have e := any_of_get (p := fun d : Si51.Def => d.word == n || d.body.contains n) hxp (by rw [show (l.defs[i].word == n) = true by rw [beq_iff_eq]; exact (Int.ofNat_inj.mp h).symm]; rfl)
          rw [e] at k
          exact iteT k
        · have h : ¬ (n : Int) = (l.defs[i].word : Int) := fun z => h (decide_eq_true z)
          have hw : (l.defs[i].word == n) = false := by rw [beq_eq_false_iff_ne]; exact fun z => h (by rw [z])
          refine ⟨_, rfl, _, rfl, p, c.D, dx, _, _, rfl, e3, T.clD, T.nD_body, dF_body, b, _, rfl, .inl (SqL.of e4), rfl, flat_nsV _, _, rfl, ?_⟩
          show if inV (nV n) (nsV l.defs[i].body) = true then _ else _
          rw [in_nsV]
          refine ite2 (fun h => ?_) (fun h => ?_)
          · have e := any_of_get (p := fun d : Si51.Def => d.word == n || d.body.contains n) hxp (by rw [h, Bool.or_true])
            rw [e] at k
            exact k
          · refine ⟨_, _, rfl, rfl, ?_⟩
            rw [any_take_succ hxp, hno, hw, Bool.false_or, Bool.false_or]
            exact Bool.eq_false_iff.mpr h
      · rintro σ H2 ⟨v2, v3, rfl, rfl, hno⟩
        rw [List.length_map, L.dl, List.take_length] at hno
        rw [hno] at k
        exact k
end
end Lw

end

section
set_option Elab.async false
set_option linter.all false
set_option maxRecDepth 100000
namespace Lw
open PySem PySem.Spec PyProof.Rows L2
open Si51 (Law)
/-- what a call may change -/
def Rg.muts (r : Rg) : List Addr := r.a :: r.pa :: r.da :: (r.ps ++ r.ds)
structure Stepped (c : Cl) (r r' : Rg) (H H' : Hp) (l' : Law) : Prop where
  at_ : LawAt c r' H' l'
  a : r'.a = r.a
  ban : r'.ban = r.ban
  keep : ∀ b o, H b = some o → b ∉ r.muts → H' b = some o
  mu : ∀ b ∈ r'.muts, b ∈ r.muts ∨ H b = none
theorem Stepped.same {c : Cl} {r : Rg} {H H' : Hp} {l : Law} (L : LawAt c r H l) (s : Same H H') : Stepped c r r H H' l := ⟨L.same s, rfl, rfl, fun b o h _ => s b o h, fun b h => .inl h⟩
def ansV (a : Si51.Ans) : List V := .int a.v :: a.l.map V.int
/-- what is wanted behind a call -/
def Ret (c : Cl) (r : Rg) (H : Hp) (st : Law × Si51.Ans) (Q : VK) : Prop := ∀ (H' : Hp) (r' : Rg) (R : Addr), Stepped c r r' H H' st.1 → H R = none → H' R = some (.lst (ansV st.2)) → Q (.ref R) H'
section
variable {c : Cl} {r : Rg} {H H' H1 : Hp} {l : Law} {Q : VK} {st : Law × Si51.Ans}
theorem Ret.one {v : Int} (k : Ret c r H st Q) (L : LawAt c r H l) (e : st = (l, Si51.ok v)) (s : Same H H1) : ([V.int v] : List V).length ≤ sizeLine ∧ ∀ p, H1 p = none → Q (.ref p) (upd H1 p (.lst [.int v])) := by
  refine ⟨(by show 1 ≤ sizeLine; decide), fun p hp => ?_⟩
  subst e
  exact k _ r p (Stepped.same L (s.upd (s.free hp))) (s.free hp) upd_same
/-- the answer is a new list, the law as it was -/
theorem Ret.read {xs : List V} {R : Addr} {a : Si51.Ans} (k : Ret c r H st Q) (L : LawAt c r H l) (e : st = (l, a)) (ex : xs = ansV a) (s : Same H H') (hR : H R = none) (h : H' R = some (.lst xs)) : Q (.ref R) H' := by
  subst e ex
  exact k _ r R (Stepped.same L s) hR h
theorem LawAt.a_ne_pa (L : LawAt c r H l) : r.a ≠ r.pa := ne_of L.ins L.parts (by intro z; cases z)
theorem LawAt.a_ne_da (L : LawAt c r H l) : r.a ≠ r.da := ne_of L.ins L.defs (by intro z; cases z)
/-- a part told -/
theorem LawAt.addPart {x dx w : Addr} {u : Nat} {t : List Nat} (L : LawAt c r H l) (keep : ∀ b o, H b = some o → b ≠ r.pa → H' b = some o) (hpa : H' r.pa = some (.lst ((r.ps ++ [x]).map V.ref))) (hx : H' x = some (.ins c.P dx (pF (some u) w))) (hw : H' w = some (.lst (nsV t)))
    (n1 : w ≠ r.pa) (n2 : w ≠ r.da ∧ w ∉ r.ban) (hnew : H x = none) (good : Good { l with parts := l.parts ++ [⟨some u, t⟩] }) : LawAt c { r with ps := r.ps ++ [x] } H' { l with parts := l.parts ++ [⟨some u, t⟩] } where
  ins := keep _ _ L.ins L.a_ne_pa
  parts := hpa
  defs := keep _ _ L.defs (Ne.symm L.npd)
  npd := L.npd
  pl := by simp [L.pl]
  dl := L.dl
  nps := nd_snoc L.nps fun hm => by
    obtain ⟨i, hi, e⟩ := List.getElem_of_mem hm
    have h1 := List.getElem?_eq_getElem hi
    have h2 := List.getElem?_eq_getElem (show i < l.parts.length by rw [← L.pl]; exact hi)
    obtain ⟨_, _, h3, _⟩ := L.pat i _ _ h1 h2
    rw [e, hnew] at h3
    cases h3
  nds := L.nds
  pat := fun i p y h1 h2 => by
    by_cases hi : i < l.parts.length
    · have h1' : r.ps[i]? = some p := by rw [List.getElem?_append_left (by rw [L.pl]; exact hi)] at h1; exact h1
      have h2' : l.parts[i]? = some y := by rw [List.getElem?_append_left hi] at h2; exact h2
      obtain ⟨dx', w', e1, e2, e3, e4⟩ := L.pat i p y h1' h2'
      exact ⟨dx', w', keep _ _ e1 (ne_of e1 L.parts (by intro z; cases z)), keep _ _ e2 e3, e3, e4⟩
    · have hi2 : i = l.parts.length := by
        have := (List.getElem?_eq_some_iff.mp h2).1
        rw [List.length_append] at this
        simp at this
        omega
      subst hi2
      rw [← L.pl, List.getElem?_concat_length] at h1
      rw [List.getElem?_concat_length] at h2
      have e1 := Option.some.inj h1
      have e2 := Option.some.inj h2
      subst e1 e2
      exact ⟨dx, w, hx, hw, n1, n2⟩
  dat := fun i p y h1 h2 => by
    obtain ⟨dx', w', e1, e2, e3, e4⟩ := L.dat i p y h1 h2
    exact ⟨dx', w', keep _ _ e1 (ne_of e1 L.parts (by intro z; cases z)), keep _ _ e2 e3, e3, e4⟩
  good := good
  bans := fun b hb z => by
    cases q : H b with
    | none => exact L.bans b hb q
    | some o =>
      by_cases e : b = r.pa
      · rw [e, hpa] at z; cases z
      · rw [keep b o q e] at z; cases z
/-- a definition told -/
theorem LawAt.addDef {x dx b : Addr} {d : Si51.Def} (L : LawAt c r H l) (keep : ∀ b o, H b = some o → b ≠ r.da → H' b = some o) (hda : H' r.da = some (.lst ((r.ds ++ [x]).map V.ref))) (hx : H' x = some (.ins c.D dx (dF d b))) (hw : H' b = some (.lst (nsV d.body)))
    (n1 : b ≠ r.pa) (n2 : b ≠ r.da ∧ b ∉ r.ban) (hnew : H x = none) (good : Good { l with defs := l.defs ++ [d] }) : LawAt c { r with ds := r.ds ++ [x] } H' { l with defs := l.defs ++ [d] } where
  ins := keep _ _ L.ins L.a_ne_da
  parts := keep _ _ L.parts L.npd
  defs := hda
  npd := L.npd
  pl := L.pl
  dl := by simp [L.dl]
  nps := L.nps
  nds := nd_snoc L.nds fun hm => by
    obtain ⟨i, hi, e⟩ := List.getElem_of_mem hm
    have h1 := List.getElem?_eq_getElem hi
    have h2 := List.getElem?_eq_getElem (show i < l.defs.length by rw [← L.dl]; exact hi)
    obtain ⟨_, _, h3, _⟩ := L.dat i _ _ h1 h2
    rw [e, hnew] at h3
    cases h3
  pat := fun i p y h1 h2 => by
    obtain ⟨dx', w', e1, e2, e3, e4⟩ := L.pat i p y h1 h2
    exact ⟨dx', w', keep _ _ e1 (ne_of e1 L.defs (by intro z; cases z)), keep _ _ e2 e4.1, e3, e4⟩
  dat := fun i p y h1 h2 => by
    by_cases hi : i < l.defs.length
    · have h1' : r.ds[i]? = some p := by rw [List.getElem?_append_left (by rw [L.dl]; exact hi)] at h1; exact h1
      have h2' : l.defs[i]? = some y := by rw [List.getElem?_append_left hi] at h2; exact h2
      obtain ⟨dx', w', e1, e2, e3, e4⟩ := L.dat i p y h1' h2'
      exact ⟨dx', w', keep _ _ e1 (ne_of e1 L.defs (by intro z; cases z)), keep _ _ e2 e4.1, e3, e4⟩
    · have hi2 : i = l.defs.length := by
        have := (List.getElem?_eq_some_iff.mp h2).1
        rw [List.length_append] at this
        simp at this
        omega
      subst hi2
      rw [← L.dl, List.getElem?_concat_length] at h1
      rw [List.getElem?_concat_length] at h2
      have e1 := Option.some.inj h1
      have e2 := Option.some.inj h2
      subst e1 e2
      exact ⟨dx, b, hx, hw, n1, n2⟩
  good := good
  bans := fun b hb z => by
    cases q : H b with
    | none => exact L.bans b hb q
    | some o =>
      by_cases e : b = r.da
      · rw [e, hda] at z; cases z
      · rw [keep b o q e] at z; cases z
/-- a part's text changed -/
theorem LawAt.setPart {p dx w : Addr} {i : Nat} {x : Si51.Part} {t : List Nat} (L : LawAt c r H l) (hp : r.ps[i]? = some p) (hx : l.parts[i]? = some x) (keep : ∀ b o, H b = some o → b ≠ p → H' b = some o) (hn : H' p = some (.ins c.P dx (pF x.up w))) (hw : H' w = some (.lst (nsV t)))
    (n1 : w ≠ r.pa) (n2 : w ≠ r.da ∧ w ∉ r.ban) (good : Good { l with parts := l.parts.set i { x with text := t } }) : LawAt c r H' { l with parts := l.parts.set i { x with text := t } } := by
  obtain ⟨dx0, w0, e1, e2, e3, e4⟩ := L.pat i p x hp hx
  have k1 : ∀ b xs, H b = some (.lst xs) → b ≠ p := fun b xs h => ne_of h e1 (by intro z; cases z)
  refine ⟨keep _ _ L.ins ?_, keep _ _ L.parts (k1 _ _ L.parts), keep _ _ L.defs (k1 _ _ L.defs), L.npd, by simp [L.pl], L.dl, L.nps, L.nds, fun j q y h1 h2 => ?_, fun j q y h1 h2 => ?_, good, fun b hb z => by
    cases q : H b with
    | none => exact L.bans b hb q
    | some o =>
      by_cases e : b = p
      · rw [e, hn] at z; cases z
      · rw [keep b o q e] at z; cases z⟩
  · intro z
    have := L.ins
    rw [z, e1] at this
    injection this with this
    injection this with h1 h2 h3
    have h4 := congrArg (fun fs => List.lookup ("parts" : Str) fs) h3
    have h4 : (none : Option V) = some (.ref r.pa) := h4
    cases h4
  · by_cases hj : j = i
    · subst hj
      rw [hp] at h1
      rw [List.getElem?_set_self (List.getElem?_eq_some_iff.mp hx).1] at h2
      cases h1
      cases h2
      exact ⟨dx, w, hn, hw, n1, n2⟩
    · rw [List.getElem?_set_ne (Ne.symm hj)] at h2
      obtain ⟨dx', w', f1, f2, f3, f4⟩ := L.pat j q y h1 h2
      have hq : q ≠ p := fun z => hj (nd_ix L.nps h1 (by rw [z]; exact hp))
      exact ⟨dx', w', keep _ _ f1 hq, keep _ _ f2 (k1 _ _ f2), f3, f4⟩
  · obtain ⟨dx', w', f1, f2, f3, f4⟩ := L.dat j q y h1 h2
    refine ⟨dx', w', keep _ _ f1 ?_, keep _ _ f2 (k1 _ _ f2), f3, f4⟩
    intro z
    rw [z, e1] at f1
    injection f1 with this
    injection this with h1 h2 h3
    have h4 := congrArg (fun fs => List.lookup ("body" : Str) fs) h3
    have h4 : (none : Option V) = some (.ref w') := h4
    cases h4
/-- a definition changed -/
theorem LawAt.setDef {p dx b : Addr} {i : Nat} {x x' : Si51.Def} (L : LawAt c r H l) (hp : r.ds[i]? = some p) (hx : l.defs[i]? = some x) (keep : ∀ b o, H b = some o → b ≠ p → H' b = some o) (hn : H' p = some (.ins c.D dx (dF x' b))) (hw : H' b = some (.lst (nsV x'.body)))
    (n1 : b ≠ r.pa) (n2 : b ≠ r.da ∧ b ∉ r.ban) (good : Good { l with defs := l.defs.set i x' }) : LawAt c r H' { l with defs := l.defs.set i x' } := by
  obtain ⟨dx0, w0, e1, e2, e3, e4⟩ := L.dat i p x hp hx
  have k1 : ∀ b xs, H b = some (.lst xs) → b ≠ p := fun b xs h => ne_of h e1 (by intro z; cases z)
  refine ⟨keep _ _ L.ins ?_, keep _ _ L.parts (k1 _ _ L.parts), keep _ _ L.defs (k1 _ _ L.defs), L.npd, L.pl, by simp [L.dl], L.nps, L.nds, fun j q y h1 h2 => ?_, fun j q y h1 h2 => ?_, good, fun b hb z => by
    cases q : H b with
    | none => exact L.bans b hb q
    | some o =>
      by_cases e : b = p
      · rw [e, hn] at z; cases z
      · rw [keep b o q e] at z; cases z⟩
  · intro z
    have := L.ins
    rw [z, e1] at this
    injection this with this
    injection this with h1 h2 h3
    have h4 := congrArg (fun fs => List.lookup ("parts" : Str) fs) h3
    have h4 : (none : Option V) = some (.ref r.pa) := h4
    cases h4
  · obtain ⟨dx', w', f1, f2, f3, f4⟩ := L.pat j q y h1 h2
    refine ⟨dx', w', keep _ _ f1 ?_, keep _ _ f2 (k1 _ _ f2), f3, f4⟩
    intro z
    rw [z, e1] at f1
    injection f1 with this
    injection this with h1 h2 h3
    have h4 := congrArg (fun fs => List.lookup ("body" : Str) fs) h3
    have h4 : some (V.ref w0) = (none : Option V) := h4
    cases h4
  · by_cases hj : j = i
    · subst hj
      rw [hp] at h1
      rw [List.getElem?_set_self (List.getElem?_eq_some_iff.mp hx).1] at h2
      cases h1
      cases h2
      exact ⟨dx, b, hn, hw, n1, n2⟩
    · rw [List.getElem?_set_ne (Ne.symm hj)] at h2
      obtain ⟨dx', w', f1, f2, f3, f4⟩ := L.dat j q y h1 h2
      have hq : q ≠ p := fun z => hj (nd_ix L.nds h1 (by rw [z]; exact hp))
      exact ⟨dx', w', keep _ _ f1 hq, keep _ _ f2 (k1 _ _ f2), f3, f4⟩
/-! ### good laws stay good -/
theorem Good.addPart (g : Good l) {u : Nat} {t : List Nat} (hu : u < l.parts.length) (hl : l.parts.length < 15) (ht : t.length ≤ 20) : Good { l with parts := l.parts ++ [⟨some u, t⟩] } where
  wf := fun i p v h1 h2 => by
    by_cases hi : i < l.parts.length
    · rw [List.getElem?_append_left hi] at h1
      exact g.wf i p v h1 h2
    · have hi2 : i = l.parts.length := by
        have := (List.getElem?_eq_some_iff.mp h1).1
        rw [List.length_append] at this
        simp at this
        omega
      subst hi2
      rw [List.getElem?_concat_length] at h1
      cases h1
      cases h2
      exact hu
  one := by simp
  parts := by simp; omega
  defs := g.defs
  text := fun x hx => by
    rcases List.mem_append.mp hx with h | h
    · exact g.text x h
    · have : x = ⟨some u, t⟩ := by simpa using h
      subst this
      exact ht
  body := g.body
  part := fun d hd => by
    have := g.part d hd
    simp
    omega
  till := g.till
theorem Good.addDef (g : Good l) {d : Si51.Def} (hp : d.part < l.parts.length) (hl : l.defs.length < 20) (hb : d.body.length ≤ 20) (ht : d.to_ ≠ some 0) : Good { l with defs := l.defs ++ [d] } where
  wf := g.wf
  one := g.one
  parts := g.parts
  defs := by simp; omega
  text := g.text
  body := fun x hx => by
    rcases List.mem_append.mp hx with h | h
    · exact g.body x h
    · have : x = d := by simpa using h
      subst this
      exact hb
  part := fun x hx => by
    rcases List.mem_append.mp hx with h | h
    · exact g.part x h
    · have : x = d := by simpa using h
      subst this
      exact hp
  till := fun x hx => by
    rcases List.mem_append.mp hx with h | h
    · exact g.till x h
    · have : x = d := by simpa using h
      subst this
      exact ht
theorem Good.setPart (g : Good l) {i : Nat} {x : Si51.Part} {t : List Nat} (hx : l.parts[i]? = some x) (ht : t.length ≤ 20) : Good { l with parts := l.parts.set i { x with text := t } } where
  wf := fun j p v h1 h2 => by
    by_cases hj : j = i
    · subst hj
      rw [List.getElem?_set_self (List.getElem?_eq_some_iff.mp hx).1] at h1
      cases h1
      exact g.wf j x v hx h2
    · rw [List.getElem?_set_ne (Ne.symm hj)] at h1
      exact g.wf j p v h1 h2
  one := by simp; exact g.one
  parts := by simp; exact g.parts
  defs := g.defs
  text := fun y hy => by
    rcases List.mem_or_eq_of_mem_set hy with h | h
    · exact g.text y h
    · subst h
      exact ht
  body := g.body
  part := fun d hd => by
    have := g.part d hd
    simp
    exact this
  till := g.till
theorem Good.setDef (g : Good l) {i : Nat} {x : Si51.Def} (hp : x.part < l.parts.length) (hb : x.body.length ≤ 20) (ht : x.to_ ≠ some 0) : Good { l with defs := l.defs.set i x } where
  wf := g.wf
  one := g.one
  parts := g.parts
  defs := by simp; exact g.defs
  text := g.text
  body := fun y hy => by
    rcases List.mem_or_eq_of_mem_set hy with h | h
    · exact g.body y h
    · subst h
      exact hb
  part := fun y hy => by
    rcases List.mem_or_eq_of_mem_set hy with h | h
    · exact g.part y h
    · subst h
      exact hp
  till := fun y hy => by
    rcases List.mem_or_eq_of_mem_set hy with h | h
    · exact g.till y h
    · subst h
      exact ht
end
end Lw

end

section
set_option Elab.async false
set_option linter.all false
set_option maxRecDepth 100000
namespace Lw
open PySem PySem.Spec PyProof.Rows L2
open Si51 (Law)
theorem cutV_drop (xs : List V) (n : Nat) : cutV xs (some (n : Int)) none = xs.drop n := by
  unfold cutV
  rw [HT.sIx_none]
  show (xs.drop (if (n : Int) < 0 then ((n : Int) + (xs.length : Int)).toNat else min (n : Int).toNat xs.length)).take (xs.length - (if (n : Int) < 0 then ((n : Int) + (xs.length : Int)).toNat else min (n : Int).toNat xs.length)) = _
  rw [if_neg (by omega), Int.toNat_natCast]
  by_cases h : n ≤ xs.length
  · rw [Nat.min_eq_left h, List.take_of_length_le (by rw [List.length_drop]; exact Nat.le_refl _)]
  · rw [Nat.min_eq_right (by omega), List.drop_length, List.drop_of_length_le (by omega)]
    simp
section
variable {P : Program} {w : World} {K : PySem.W.Frag} {mg : Str → Option Value} {base : Heap} {c : Cl}
/-! ### the classes -/
abbrev s_Part___init__ : Stmt := inClass (top 12) 0
theorem sc_Part : FnScope ["self", "above", "words"] ["self", "above", "words"] (defScope s_Part___init__) := ⟨rfl, rfl, rfl, by decide +kernel, rfl, by decide +kernel, by decide +kernel⟩
inductive Sp_Part (c : Cl) (vs : List V) (H : Hp) (Q : VK) : Prop
  | mk (p dx wd : Addr) (u : Option Nat) (h0 : vs = [.ref p, upV u, .ref wd]) (h1 : H p = some (.ins c.P dx [])) (h2 : Q .non (upd H p (.ins c.P dx (pF u wd)))) : Sp_Part c vs H Q
def sp_Part (c : Cl) : Sp := fun vs H Q _ => Sp_Part c vs H Q
theorem ok_Part {f : Addr} {fd : FuncData} (F : Fun K "__init__" "Part.__init__" s_Part___init__ f fd) (T : Txt K mg c) : FnOk P w K mg base CX0 1 f fd ["self", "above", "words"] (sp_Part c) := by
  refine F.ok sc_Part (fun vs H Q E h => ?_) (fun cdv A outer s H vs Q E hr h => ?_)
  · obtain ⟨p, dx, wd, u, rfl, _⟩ := h
    rfl
  · obtain ⟨p, dx, wd, u, rfl, hp, k⟩ := h
    refine ⟨_, (pss_cons (ps_fld (pv 0) (pv 1) rfl)
      (pss_one (ps_fld (pv 0) (pv 2) rfl))), ?_⟩
    try dsimp only [cx_K]
    refine ⟨_, rfl, _, rfl, p, c.P, dx, _, rfl, hp, T.clP, T.nP_above, (by show 0 < 1000; decide), ?_⟩
    refine ⟨_, rfl, _, rfl, p, c.P, dx, _, rfl, upd_same, T.clP, T.nP_words, (by show 1 < 1000; decide), ?_⟩
    rw [upd_upd]
    exact k
abbrev s_Definition___init__ : Stmt := inClass (top 13) 0
theorem sc_Definition : FnScope ["self", "part", "word", "since", "until", "body"] ["self", "part", "word", "since", "until", "body"] (defScope s_Definition___init__) := ⟨rfl, rfl, rfl, by decide +kernel, rfl, by decide +kernel, by decide +kernel⟩
inductive Sp_Definition (c : Cl) (vs : List V) (H : Hp) (Q : VK) : Prop
  | mk (p dx b : Addr) (d : Si51.Def) (h0 : vs = [.ref p, nV d.part, nV d.word, nV d.from_, nV (d.to_.getD 0), .ref b]) (h1 : H p = some (.ins c.D dx [])) (h2 : Q .non (upd H p (.ins c.D dx (dF d b)))) : Sp_Definition c vs H Q
def sp_Definition (c : Cl) : Sp := fun vs H Q _ => Sp_Definition c vs H Q
theorem ok_Definition {f : Addr} {fd : FuncData} (F : Fun K "__init__" "Definition.__init__" s_Definition___init__ f fd) (T : Txt K mg c) : FnOk P w K mg base CX0 1 f fd ["self", "part", "word", "since", "until", "body"] (sp_Definition c) := by
  refine F.ok sc_Definition (fun vs H Q E h => ?_) (fun cdv A outer s H vs Q E hr h => ?_)
  · obtain ⟨p, dx, b, d, rfl, _⟩ := h
    rfl
  · obtain ⟨p, dx, b, d, rfl, hp, k⟩ := h
    refine ⟨_, (pss_cons (ps_fld (pv 0) (pv 1) rfl)
      (pss_cons (ps_fld (pv 0) (pv 2) rfl)
      (pss_cons (ps_fld (pv 0) (pv 3) rfl)
      (pss_cons (ps_fld (pv 0) (pv 4) rfl)
      (pss_one (ps_fld (pv 0) (pv 5) rfl)))))), ?_⟩
    try dsimp only [cx_K]
    refine ⟨_, rfl, _, rfl, p, c.D, dx, _, rfl, hp, T.clD, T.nD_part, (by show 0 < 1000; decide), ?_⟩
    refine ⟨_, rfl, _, rfl, p, c.D, dx, _, rfl, upd_same, T.clD, T.nD_word, (by show 1 < 1000; decide), ?_⟩
    refine ⟨_, rfl, _, rfl, p, c.D, dx, _, rfl, upd_same, T.clD, T.nD_since, (by show 2 < 1000; decide), ?_⟩
    refine ⟨_, rfl, _, rfl, p, c.D, dx, _, rfl, upd_same, T.clD, T.nD_until, (by show 3 < 1000; decide), ?_⟩
    refine ⟨_, rfl, _, rfl, p, c.D, dx, _, rfl, upd_same, T.clD, T.nD_body, (by show 4 < 1000; decide), ?_⟩
    rw [upd_upd, upd_upd, upd_upd, upd_upd]
    exact k
/-! ### add_part -/
abbrev s_add_part : Stmt := top 49
theorem sc_add_part : FnScope ["law", "numbers", "above", "words"] ["law", "numbers"] (defScope s_add_part) := ⟨rfl, rfl, rfl, by decide +kernel, rfl, by decide +kernel, by decide +kernel⟩
inductive Sp_add_part (c : Cl) (vs : List V) (H : Hp) (Q : VK) : Prop
  | mk (r : Rg) (l : Law) (M : Addr) (u : Nat) (t : List Nat) (h0 : vs = [.ref r.a, .ref M]) (h1 : LawAt c r H l) (h2 : H M = some (.lst (nsV (u :: t)))) (h3 : Ret c r H (Si51.step l (.part u t)) Q) : Sp_add_part c vs H Q
def sp_add_part (c : Cl) : Sp := fun vs H Q _ => Sp_add_part c vs H Q
theorem there_iff (l : Law) (p : Nat) : Si51.there l p = decide (p < l.parts.length) := rfl
theorem ok_add_part {f : Addr} {fd : FuncData} (F : Fun K "add_part" "add_part" s_add_part f fd) (T : Txt K mg c) (D_wrong_words : FnD P w K mg base "wrong_words" 2 ["words"] sp_wrong_words) (D_Part : MkD P w K mg base "Part" c.P 1 ["self", "above", "words"] (sp_Part c)) :
    FnOk P w K mg base CX0 3 f fd ["law", "numbers"] (sp_add_part c) := by
  refine F.ok sc_add_part (fun vs H Q E h => ?_) (fun cdv A outer s H vs Q E hr h => ?_)
  · obtain ⟨r, l, M, u, t, rfl, _⟩ := h
    rfl
  · obtain ⟨r, l, M, u, t, rfl, L, hM, k⟩ := h
    refine ⟨_, (pss_cons (ps_set (i := 2) sc_add_part.nd rfl (by first | exact Or.inl rfl | exact Or.inr rfl) (pe_ix ix_list (pv 1) pe_int (fun _ _ => rfl)))
      (pss_cons (ps_set (i := 3) sc_add_part.nd rfl (by first | exact Or.inl rfl | exact Or.inr rfl) (pe_slice sl_list (pv 1) (po_some pe_int) po_none))
      (pss_cons (ps_if (pt_cmp (pc_ge (pv 2) (pe_callB call_len_seq (by rfl) T.b_len PySem.boot_len (pa_cons (pe_fld (pv 0) rfl) pa_nil))))
      (pss_one (ps_ret (pe_lst (pa_cons (pe_gint rfl T.g_NOT_THERE) pa_nil))))
      pss_nil)
      (pss_cons (ps_if (pt_val (pe_fn D_wrong_words (hr.mono (by decide)) rfl (pa_cons (pv 3) pa_nil)))
      (pss_one (ps_ret (pe_lst (pa_cons (pe_gint rfl T.g_WRONG) pa_nil))))
      pss_nil)
      (pss_cons (ps_if (pt_cmp (pc_ge (pe_callB call_len_seq (by rfl) T.b_len PySem.boot_len (pa_cons (pe_fld (pv 0) rfl) pa_nil)) (pe_gint rfl T.g_MOST_PARTS)))
      (pss_one (ps_ret (pe_lst (pa_cons (pe_gint rfl T.g_TOO_MUCH) pa_nil))))
      pss_nil)
      (pss_cons (ps_expr (pe_bm PySem.F.plainAttrs_list PySem.F.slot_list_append PySem.F.type_list_append mt_append (pe_fld (pv 0) rfl) (pa_cons (pe_mk D_Part (hr.mono (by decide)) rfl (pa_cons (pv 2) (pa_cons (pv 3) pa_nil))) pa_nil)))
      (pss_one (ps_ret (pe_lst (pa_cons (pe_op op_sub (pe_callB call_len_seq (by rfl) T.b_len PySem.boot_len (pa_cons (pe_fld (pv 0) rfl) pa_nil)) pe_int) pa_nil)))))))))), ?_⟩
    try dsimp only [cx_K]
    refine ⟨_, rfl, M, _, _, _, rfl, rfl, SqL.of hM, at_nat (j := 0) rfl, ?_⟩
    refine ⟨_, rfl, _, rfl, M, _, rfl, SqL.of hM, fun Wd hWd => ?_⟩
    have s1 : Same H (upd H Wd (.lst (cutV (nsV (u :: t)) (some 1) none))) := Same.new hWd
    have hW : (upd H Wd (.lst (cutV (nsV (u :: t)) (some 1) none))) Wd = some (.lst (nsV t)) := by
      rw [upd_same, show cutV (nsV (u :: t)) (some 1) none = (nsV (u :: t)).drop 1 from cutV_drop _ 1]
      rfl
    have L1 := L.same s1
    have hwp : Wd ≠ r.pa := fun z => by rw [z, L.parts] at hWd; cases hWd
    have hwd : Wd ≠ r.da ∧ Wd ∉ r.ban := ⟨fun z => (by rw [z, L.defs] at hWd; cases hWd), fun hb => L.bans _ hb hWd⟩
    have hpl : (r.ps.map V.ref).length = l.parts.length := by rw [List.length_map, L.pl]
    refine ⟨_, rfl, _, rfl, r.a, c.L, r.dx, _, _, rfl, L1.ins, T.clL, T.nL_parts, lF_parts, r.pa, _, rfl, .inl (SqL.of L1.parts), _, _, rfl, rfl, _, rfl, ?_⟩
    refine ite2 (fun h => ?_) (fun h => ?_)
    · have h : ((r.ps.map V.ref).length : Int) ≤ (u : Int) := of_decide_eq_true h
      rw [hpl] at h
      exact k.one L (by show (if _ then _ else _) = _; rw [if_pos (by rw [there_iff]; exact decide_eq_false (Nat.not_lt_of_le (Int.ofNat_le.mp h)))]) s1
    · have h : ¬ ((r.ps.map V.ref).length : Int) ≤ (u : Int) := fun z => h (decide_eq_true z)
      rw [hpl] at h
      have hu : u < l.parts.length := Nat.lt_of_not_le fun z => h (Int.ofNat_le.mpr z)
      have nth : ¬ Si51.there l u = false := by rw [there_iff, decide_eq_true hu]; decide
      refine ⟨_, rfl, Wd, t, rfl, hW, fun H2 s2 => ⟨_, rfl, ?_⟩⟩
      cases hok : Si51.wordsOk t with
      | false =>
        refine iteT ?_
        exact k.one L (by show (if _ then _ else _) = _; rw [if_neg nth, if_pos hok]) (s1.trans s2)
      | true =>
        refine iteF ?_
        have nok : ¬ Si51.wordsOk t = false := by rw [hok]; decide
        have ht20 : t.length ≤ 20 := by
          rw [wordsOk_eq, Bool.and_eq_true] at hok
          exact of_decide_eq_true hok.1
        have L2 := L1.same s2
        refine ⟨_, rfl, r.a, c.L, r.dx, _, _, rfl, L2.ins, T.clL, T.nL_parts, lF_parts, r.pa, _, rfl, .inl (SqL.of L2.parts), _, _, rfl, rfl, _, rfl, ?_⟩
        refine ite2 (fun h => ?_) (fun h => ?_)
        · have h : (15 : Int) ≤ ((r.ps.map V.ref).length : Int) := of_decide_eq_true h
          rw [hpl] at h
          exact k.one L (by show (if _ then _ else _) = _; rw [if_neg nth, if_neg nok, if_pos (by exact (Int.ofNat_le (m := 15)).mp h)]) (s1.trans s2)
        · have h : ¬ (15 : Int) ≤ ((r.ps.map V.ref).length : Int) := fun z => h (decide_eq_true z)
          rw [hpl] at h
          have h15 : ¬ 15 ≤ l.parts.length := fun z => h ((Int.ofNat_le (m := 15)).mpr z)
          refine ⟨_, rfl, r.a, c.L, r.dx, _, _, rfl, L2.ins, T.clL, T.nL_parts, lF_parts, .inl ⟨rfl, _, SqL.of L2.parts⟩, _, rfl, _, rfl, fun x dx hx hdx hne => ?_⟩
          have s3 : Same H2 (upd (upd H2 dx (.own x)) x (.ins c.P dx [])) := fun b o e => by
            rw [upd_ne (ne_of_none e hx), upd_ne (ne_of_none e hdx)]
            exact e
          refine ⟨x, dx, Wd, some u, rfl, upd_same, rfl, ?_⟩
          rw [upd_upd]
          have s4 : Same H2 (upd (upd H2 dx (.own x)) x (.ins c.P dx (pF (some u) Wd))) := fun b o e => by
            rw [upd_ne (ne_of_none e hx), upd_ne (ne_of_none e hdx)]
            exact e
          have L4 := L2.same s4
          refine ⟨r.pa, _, _, rfl, rfl, L4.parts, small1000 (by rw [hpl]; exact Nat.le_trans (Nat.le_of_lt (Nat.lt_of_not_le h15)) (by decide)), ?_⟩
          have hxp : x ≠ r.pa := fun z => by rw [z, L2.parts] at hx; cases hx
          have sH : Same H (upd (upd H2 dx (.own x)) x (.ins c.P dx (pF (some u) Wd))) := (s1.trans s2).trans s4
          have hxn : H x = none := (s1.trans s2).free hx
          have L5 : LawAt c { r with ps := r.ps ++ [x] } (upd (upd (upd H2 dx (.own x)) x (.ins c.P dx (pF (some u) Wd))) r.pa (.lst (r.ps.map V.ref ++ [.ref x]))) { l with parts := l.parts ++ [⟨some u, t⟩] } :=
            L.addPart (dx := dx) (w := Wd) (fun b o e hb => by rw [upd_ne hb]; exact sH _ _ e) (by rw [upd_same, List.map_append]; rfl) (by rw [upd_ne hxp, upd_same]) (by rw [upd_ne hwp]; exact s4 _ _ (s2 _ _ hW)) hwp hwd hxn (L.good.addPart hu (Nat.lt_of_not_le h15) ht20)
          refine ⟨_, rfl, r.a, c.L, r.dx, _, _, rfl, L5.ins, T.clL, T.nL_parts, lF_parts, r.pa, _, rfl, .inl (SqL.of L5.parts), _, _, rfl, rfl, (by show 1 ≤ sizeLine; decide), fun R hR => ?_⟩
          have hRn : H R = none := by
            cases q : H R with
            | none => rfl
            | some o =>
              by_cases hb : R = r.pa
              · rw [hb, upd_same] at hR; cases hR
              · rw [upd_ne hb, sH _ _ q] at hR; cases hR
          have est : Si51.step l (.part u t) = ({ l with parts := l.parts ++ [⟨some u, t⟩] }, Si51.ok (l.parts.length : Int)) := by
            show (if _ then _ else _) = _
            rw [if_neg nth, if_neg nok, if_neg (by exact h15)]
          rw [est] at k
          refine k _ { r with ps := r.ps ++ [x] } R ⟨L5.same (Same.new hR), rfl, rfl, fun b o e hb => ?_, fun b hb => ?_⟩ hRn ?_
          · rw [upd_ne (fun z => by rw [z, hRn] at e; cases e), upd_ne (fun z => hb (by rw [z]; simp [Rg.muts]))]
            exact sH _ _ e
          · simp [Rg.muts] at hb ⊢
            rcases hb with h | h | h | h | h | h
            · exact .inl (.inl h)
            · exact .inl (.inr (.inl h))
            · exact .inl (.inr (.inr (.inl h)))
            · exact .inl (.inr (.inr (.inr (.inl h))))
            · subst h
              exact .inr hxn
            · exact .inl (.inr (.inr (.inr (.inr h))))
          · rw [upd_same]
            show some (HO.lst [V.int ((((r.ps ++ [x]).map V.ref).length : Int) - 1)]) = some (HO.lst [V.int (l.parts.length : Int)])
            rw [List.length_map, List.length_append, L.pl]
            simp
end
end Lw

end

section
set_option Elab.async false
set_option linter.all false
set_option maxRecDepth 100000
namespace Lw
open PySem PySem.Spec PyProof.Rows L2
open Si51 (Law)
section
variable {P : Program} {w : World} {K : PySem.W.Frag} {mg : Str → Option Value} {base : Heap} {c : Cl}
/-! ### define -/
abbrev s_define : Stmt := top 50
theorem sc_define : FnScope ["law", "numbers", "part", "word", "since", "until", "body"] ["law", "numbers"] (defScope s_define) := ⟨rfl, rfl, rfl, by decide +kernel, rfl, by decide +kernel, by decide +kernel⟩
inductive Sp_define (c : Cl) (vs : List V) (H : Hp) (Q : VK) : Prop
  | mk (r : Rg) (l : Law) (M : Addr) (p wd a b : Nat) (t : List Nat) (h0 : vs = [.ref r.a, .ref M]) (h1 : LawAt c r H l) (h2 : H M = some (.lst (nsV (p :: wd :: a :: b :: t)))) (h3 : Ret c r H (Si51.step l (.define p wd a b t)) Q) : Sp_define c vs H Q
def sp_define (c : Cl) : Sp := fun vs H Q _ => Sp_define c vs H Q
/-- what the document refuses with -1 -/
theorem define_wrong (l : Law) (p wd a b : Nat) (t : List Nat) : ((Si51.wordsOk [wd] && (Si51.wordsOk t && (decide (1 ≤ t.length) && (decide (a ≤ 99999) && decide (b ≤ 99999))))) = false ∨ (b ≠ 0 ∧ b ≤ a)) ↔
    ((!wok wd) = true ∨ wdays a b = true ∨ t.length = 0 ∨ (!Si51.wordsOk t) = true) := by
  have e1 : Si51.wordsOk [wd] = wok wd := by
    rw [wordsOk_eq]
    simp
  rw [e1]
  unfold wdays
  generalize Si51.wordsOk t = ww
  generalize t.length = n
  generalize wok wd = v
  cases v
  · simp
  · cases ww
    · simp
    · simp only [Bool.true_and, Bool.and_eq_false_iff, decide_eq_false_iff_not, Bool.not_true, Bool.or_eq_true, decide_eq_true_iff, Bool.and_eq_true, Bool.not_eq_true', Bool.false_eq_true, false_or, or_false]
      constructor
      · rintro ((h | h | h) | ⟨h1, h2⟩)
        · exact .inr (by omega)
        · exact .inl (.inl (by omega))
        · exact .inl (.inr ⟨by omega, .inr (by omega)⟩)
        · exact .inl (.inr ⟨h1, .inl h2⟩)
      · rintro ((h | ⟨h1, h2 | h2⟩) | h)
        · exact .inl (.inr (.inl (by omega)))
        · exact .inr ⟨h1, h2⟩
        · exact .inl (.inr (.inr (by omega)))
        · exact .inl (.inl (by omega))
theorem step_ends_none {l : Law} {d day : Nat} (h : l.defs[d]? = none) : Si51.step l (.ends d day) = (l, Si51.ok (-2)) := by
  show (match l.defs[d]? with
    | none => (l, Si51.ok (-2))
    | some x => if day ≤ x.from_ ∨ 99999 < day then (l, Si51.ok (-1)) else ({ l with defs := l.defs.set d { x with to_ := some day } }, Si51.ok 0)) = _
  rw [h]
theorem step_ends {l : Law} {d day : Nat} {x : Si51.Def} (h : l.defs[d]? = some x) : Si51.step l (.ends d day) = if day ≤ x.from_ ∨ 99999 < day then (l, Si51.ok (-1)) else ({ l with defs := l.defs.set d { x with to_ := some day } }, Si51.ok 0) := by
  show (match l.defs[d]? with
    | none => (l, Si51.ok (-2))
    | some x => if day ≤ x.from_ ∨ 99999 < day then (l, Si51.ok (-1)) else ({ l with defs := l.defs.set d { x with to_ := some day } }, Si51.ok 0)) = _
  rw [h]
theorem ok_define {f : Addr} {fd : FuncData} (F : Fun K "define" "define" s_define f fd) (T : Txt K mg c) (D_wrong_word : FnD P w K mg base "wrong_word" 1 ["word"] sp_wrong_word) (D_wrong_days : FnD P w K mg base "wrong_days" 2 ["since", "until"] sp_wrong_days) (D_wrong_words : FnD P w K mg base "wrong_words" 2 ["words"] sp_wrong_words)
    (D_Definition : MkD P w K mg base "Definition" c.D 1 ["self", "part", "word", "since", "until", "body"] (sp_Definition c)) :
    FnOk P w K mg base CX0 3 f fd ["law", "numbers"] (sp_define c) := by
  refine F.ok sc_define (fun vs H Q E h => ?_) (fun cdv A outer s H vs Q E hr h => ?_)
  · obtain ⟨r, l, M, p, wd, a, b, t, rfl, _⟩ := h
    rfl
  · obtain ⟨r, l, M, p, wd, a, b, t, rfl, L, hM, k⟩ := h
    refine ⟨_, (pss_cons (ps_set (i := 2) sc_define.nd rfl (by first | exact Or.inl rfl | exact Or.inr rfl) (pe_ix ix_list (pv 1) pe_int (fun _ _ => rfl)))
      (pss_cons (ps_set (i := 3) sc_define.nd rfl (by first | exact Or.inl rfl | exact Or.inr rfl) (pe_ix ix_list (pv 1) pe_int (fun _ _ => rfl)))
      (pss_cons (ps_set (i := 4) sc_define.nd rfl (by first | exact Or.inl rfl | exact Or.inr rfl) (pe_ix ix_list (pv 1) pe_int (fun _ _ => rfl)))
      (pss_cons (ps_set (i := 5) sc_define.nd rfl (by first | exact Or.inl rfl | exact Or.inr rfl) (pe_ix ix_list (pv 1) pe_int (fun _ _ => rfl)))
      (pss_cons (ps_set (i := 6) sc_define.nd rfl (by first | exact Or.inl rfl | exact Or.inr rfl) (pe_slice sl_list (pv 1) (po_some pe_int) po_none))
      (pss_cons (ps_if (pt_cmp (pc_ge (pv 2) (pe_callB call_len_seq (by rfl) T.b_len PySem.boot_len (pa_cons (pe_fld (pv 0) rfl) pa_nil))))
      (pss_one (ps_ret (pe_lst (pa_cons (pe_gint rfl T.g_NOT_THERE) pa_nil))))
      pss_nil)
      (pss_cons (ps_if (PW.pt (pw_or (pt_val (pe_fn D_wrong_word (hr.mono (by decide)) rfl (pa_cons (pv 3) pa_nil))) (pw_or (pt_val (pe_fn D_wrong_days (hr.mono (by decide)) rfl (pa_cons (pv 4) (pa_cons (pv 5) pa_nil)))) (pw_or (pt_cmp (pc_eqI (pe_callB call_len_seq (by rfl) T.b_len PySem.boot_len (pa_cons (pv 6) pa_nil)) pe_int)) (pw_or1 (pt_val (pe_fn D_wrong_words (hr.mono (by decide)) rfl (pa_cons (pv 6) pa_nil))))))))
      (pss_one (ps_ret (pe_lst (pa_cons (pe_gint rfl T.g_WRONG) pa_nil))))
      pss_nil)
      (pss_cons (ps_if (pt_cmp (pc_ge (pe_callB call_len_seq (by rfl) T.b_len PySem.boot_len (pa_cons (pe_fld (pv 0) rfl) pa_nil)) (pe_gint rfl T.g_MOST_DEFINITIONS)))
      (pss_one (ps_ret (pe_lst (pa_cons (pe_gint rfl T.g_TOO_MUCH) pa_nil))))
      pss_nil)
      (pss_cons (ps_expr (pe_bm PySem.F.plainAttrs_list PySem.F.slot_list_append PySem.F.type_list_append mt_append (pe_fld (pv 0) rfl) (pa_cons (pe_mk D_Definition (hr.mono (by decide)) rfl (pa_cons (pv 2) (pa_cons (pv 3) (pa_cons (pv 4) (pa_cons (pv 5) (pa_cons (pv 6) pa_nil)))))) pa_nil)))
      (pss_one (ps_ret (pe_lst (pa_cons (pe_op op_sub (pe_callB call_len_seq (by rfl) T.b_len PySem.boot_len (pa_cons (pe_fld (pv 0) rfl) pa_nil)) pe_int) pa_nil))))))))))))), ?_⟩
    try dsimp only [cx_K]
    refine ⟨_, rfl, M, _, _, _, rfl, rfl, SqL.of hM, at_nat (j := 0) rfl, ?_⟩
    refine ⟨_, rfl, M, _, _, _, rfl, rfl, SqL.of hM, at_nat (j := 1) rfl, ?_⟩
    refine ⟨_, rfl, M, _, _, _, rfl, rfl, SqL.of hM, at_nat (j := 2) rfl, ?_⟩
    refine ⟨_, rfl, M, _, _, _, rfl, rfl, SqL.of hM, at_nat (j := 3) rfl, ?_⟩
    refine ⟨_, rfl, _, rfl, M, _, rfl, SqL.of hM, fun Wd hWd => ?_⟩
    have s1 : Same H (upd H Wd (.lst (cutV (nsV (p :: wd :: a :: b :: t)) (some 4) none))) := Same.new hWd
    have hW : (upd H Wd (.lst (cutV (nsV (p :: wd :: a :: b :: t)) (some 4) none))) Wd = some (.lst (nsV t)) := by
      rw [upd_same, show cutV (nsV (p :: wd :: a :: b :: t)) (some 4) none = (nsV (p :: wd :: a :: b :: t)).drop 4 from cutV_drop _ 4]
      rfl
    have L1 := L.same s1
    have hwp : Wd ≠ r.pa := fun z => by rw [z, L.parts] at hWd; cases hWd
    have hwd : Wd ≠ r.da ∧ Wd ∉ r.ban := ⟨fun z => (by rw [z, L.defs] at hWd; cases hWd), fun hb => L.bans _ hb hWd⟩
    have hpl : (r.ps.map V.ref).length = l.parts.length := by rw [List.length_map, L.pl]
    have hdl : (r.ds.map V.ref).length = l.defs.length := by rw [List.length_map, L.dl]
    refine ⟨_, rfl, _, rfl, r.a, c.L, r.dx, _, _, rfl, L1.ins, T.clL, T.nL_parts, lF_parts, r.pa, _, rfl, .inl (SqL.of L1.parts), _, _, rfl, rfl, _, rfl, ?_⟩
    refine ite2 (fun h => ?_) (fun h => ?_)
    · have h : ((r.ps.map V.ref).length : Int) ≤ (p : Int) := of_decide_eq_true h
      rw [hpl] at h
      exact k.one L (by show (if _ then _ else _) = _; rw [if_pos (by rw [there_iff]; exact decide_eq_false (Nat.not_lt_of_le (Int.ofNat_le.mp h)))]) s1
    · have h : ¬ ((r.ps.map V.ref).length : Int) ≤ (p : Int) := fun z => h (decide_eq_true z)
      rw [hpl] at h
      have hu : p < l.parts.length := Nat.lt_of_not_le fun z => h (Int.ofNat_le.mpr z)
      have nth : ¬ Si51.there l p = false := by rw [there_iff, decide_eq_true hu]; decide
      -- the refusal -1
      have bad : ∀ (H2 : Hp), Same H H2 → ((!wok wd) = true ∨ wdays a b = true ∨ t.length = 0 ∨ (!Si51.wordsOk t) = true) → ([V.int (-1)] : List V).length ≤ sizeLine ∧ ∀ q, H2 q = none → Q (.ref q) (upd H2 q (.lst [.int (-1)])) := fun H2 s2 hb =>
        k.one L (by show (if _ then _ else _) = _; rw [if_neg nth, if_pos ((define_wrong l p wd a b t).mpr hb)]) s2
      refine ⟨_, rfl, wd, rfl, _, rfl, ?_⟩
      refine ite2 (fun hb => iteT (bad _ s1 (.inl hb))) (fun hb1 => ?_)
      refine ⟨_, rfl, _, rfl, a, b, rfl, _, rfl, ?_⟩
      refine ite2 (fun hb => iteT (bad _ s1 (.inr (.inl hb)))) (fun hb2 => ?_)
      refine ⟨_, rfl, Wd, _, rfl, .inl (SqL.of hW), _, _, rfl, rfl, _, rfl, ?_⟩
      refine ite2 (fun hb => iteT (bad _ s1 (.inr (.inr (.inl ?_))))) (fun hb3 => ?_)
      · have hb : ((nsV t).length : Int) = 0 := of_decide_eq_true hb
        rw [nsV_len] at hb
        exact Int.ofNat_eq_zero.mp hb
      have hb3 : ¬ t.length = 0 := fun z => hb3 (decide_eq_true (by rw [nsV_len, z]; rfl))
      refine ⟨_, rfl, Wd, t, rfl, hW, fun H2 s2 => ⟨_, rfl, ?_⟩⟩
      refine ite2 (fun hb => bad _ (s1.trans s2) (.inr (.inr (.inr hb)))) (fun hb4 => ?_)
      have nbad := fun z => (define_wrong l p wd a b t).mp z
      have nbad : ¬ ((Si51.wordsOk [wd] && (Si51.wordsOk t && (decide (1 ≤ t.length) && (decide (a ≤ 99999) && decide (b ≤ 99999))))) = false ∨ (b ≠ 0 ∧ b ≤ a)) := fun z => by
        rcases nbad z with z | z | z | z
        · exact hb1 z
        · exact hb2 z
        · exact hb3 z
        · exact hb4 z
      have ht20 : t.length ≤ 20 := by
        have hok : Si51.wordsOk t = true := by
          cases e : Si51.wordsOk t with
          | true => rfl
          | false => rw [e] at hb4; exact absurd rfl hb4
        rw [wordsOk_eq, Bool.and_eq_true] at hok
        exact of_decide_eq_true hok.1
      have L2 := L1.same s2
      refine ⟨_, rfl, r.a, c.L, r.dx, _, _, rfl, L2.ins, T.clL, T.nL_defs, lF_defs, r.da, _, rfl, .inl (SqL.of L2.defs), _, _, rfl, rfl, _, rfl, ?_⟩
      refine ite2 (fun h => ?_) (fun h => ?_)
      · have h : (20 : Int) ≤ ((r.ds.map V.ref).length : Int) := of_decide_eq_true h
        rw [hdl] at h
        exact k.one L (by show (if _ then _ else _) = _; rw [if_neg nth, if_neg nbad, if_pos (by exact (Int.ofNat_le (m := 20)).mp h)]) (s1.trans s2)
      · have h : ¬ (20 : Int) ≤ ((r.ds.map V.ref).length : Int) := fun z => h (decide_eq_true z)
        rw [hdl] at h
        generalize hdd : (⟨p, wd, a, if b = 0 then none else some b, t⟩ : Si51.Def) = d
        have hto : d.to_.getD 0 = b := by
          rw [← hdd]
          dsimp only
          split
          · rename_i z; exact z.symm
          · rfl
        refine ⟨_, rfl, r.a, c.L, r.dx, _, _, rfl, L2.ins, T.clL, T.nL_defs, lF_defs, .inl ⟨rfl, _, SqL.of L2.defs⟩, _, rfl, _, rfl, _, rfl, _, rfl, _, rfl, fun x dx hx hdx hne => ?_⟩
        refine ⟨x, dx, Wd, d, (by rw [hto, ← hdd]), upd_same, rfl, ?_⟩
        rw [upd_upd]
        have s4 : Same H2 (upd (upd H2 dx (.own x)) x (.ins c.D dx (dF d Wd))) := fun b o e => by
          rw [upd_ne (ne_of_none e hx), upd_ne (ne_of_none e hdx)]
          exact e
        have L4 := L2.same s4
        refine ⟨r.da, _, _, rfl, rfl, L4.defs, small1000 (by rw [hdl]; exact Nat.le_trans L.good.defs (by decide)), ?_⟩
        have hxp : x ≠ r.da := fun z => by rw [z, L2.defs] at hx; cases hx
        have sH : Same H (upd (upd H2 dx (.own x)) x (.ins c.D dx (dF d Wd))) := (s1.trans s2).trans s4
        have hxn : H x = none := (s1.trans s2).free hx
        have hbody : d.body = t := by rw [← hdd]
        have L5 : LawAt c { r with ds := r.ds ++ [x] } (upd (upd (upd H2 dx (.own x)) x (.ins c.D dx (dF d Wd))) r.da (.lst (r.ds.map V.ref ++ [.ref x]))) { l with defs := l.defs ++ [d] } :=
          L.addDef (dx := dx) (b := Wd) (fun b o e hb => by rw [upd_ne hb]; exact sH _ _ e) (by rw [upd_same, List.map_append]; rfl) (by rw [upd_ne hxp, upd_same]) (by rw [upd_ne hwd.1, hbody]; exact s4 _ _ (s2 _ _ hW)) hwp hwd hxn
            (L.good.addDef (by rw [← hdd]; exact hu) (Nat.lt_of_not_le fun z => h ((Int.ofNat_le (m := 20)).mpr z)) (by rw [hbody]; exact ht20) (by
              rw [← hdd]
              dsimp only
              split
              · intro z; cases z
              · rename_i z0
                intro z
                exact z0 (Option.some.inj z)))
        refine ⟨_, rfl, r.a, c.L, r.dx, _, _, rfl, L5.ins, T.clL, T.nL_defs, lF_defs, r.da, _, rfl, .inl (SqL.of L5.defs), _, _, rfl, rfl, (by show 1 ≤ sizeLine; decide), fun R hR => ?_⟩
        have hRn : H R = none := by
          cases q : H R with
          | none => rfl
          | some o =>
            by_cases hb : R = r.da
            · rw [hb, upd_same] at hR; cases hR
            · rw [upd_ne hb, sH _ _ q] at hR; cases hR
        have est : Si51.step l (.define p wd a b t) = ({ l with defs := l.defs ++ [d] }, Si51.ok (l.defs.length : Int)) := by
          show (if _ then _ else _) = _
          rw [if_neg nth, if_neg nbad, if_neg (by exact fun z => h ((Int.ofNat_le (m := 20)).mpr z)), hdd]
        rw [est] at k
        refine k _ { r with ds := r.ds ++ [x] } R ⟨L5.same (Same.new hR), rfl, rfl, fun b o e hb => ?_, fun b hb => ?_⟩ hRn ?_
        · rw [upd_ne (fun z => by rw [z, hRn] at e; cases e), upd_ne (fun z => hb (by rw [z]; simp [Rg.muts]))]
          exact sH _ _ e
        · simp [Rg.muts] at hb ⊢
          rcases hb with h | h | h | h | h | h
          · exact .inl (.inl h)
          · exact .inl (.inr (.inl h))
          · exact .inl (.inr (.inr (.inl h)))
          · exact .inl (.inr (.inr (.inr (.inl h))))
          · exact .inl (.inr (.inr (.inr (.inr h))))
          · subst h
            exact .inr hxn
        · rw [upd_same]
          show some (HO.lst [V.int ((((r.ds ++ [x]).map V.ref).length : Int) - 1)]) = some (HO.lst [V.int (l.defs.length : Int)])
          rw [List.length_map, List.length_append, L.dl]
          simp
/-! ### ends -/
abbrev s_ends : Stmt := top 51
theorem sc_ends : FnScope ["law", "numbers", "number", "day", "definition"] ["law", "numbers"] (defScope s_ends) := ⟨rfl, rfl, rfl, by decide +kernel, rfl, by decide +kernel, by decide +kernel⟩
inductive Sp_ends (c : Cl) (vs : List V) (H : Hp) (Q : VK) : Prop
  | mk (r : Rg) (l : Law) (M : Addr) (d day : Nat) (h0 : vs = [.ref r.a, .ref M]) (h1 : LawAt c r H l) (h2 : H M = some (.lst (nsV [d, day]))) (h3 : Ret c r H (Si51.step l (.ends d day)) Q) : Sp_ends c vs H Q
def sp_ends (c : Cl) : Sp := fun vs H Q _ => Sp_ends c vs H Q
theorem ok_ends {f : Addr} {fd : FuncData} (F : Fun K "ends" "ends" s_ends f fd) (T : Txt K mg c) (D_wrong_end : FnD P w K mg base "wrong_end" 1 ["since", "until"] sp_wrong_end) :
    FnOk P w K mg base CX0 2 f fd ["law", "numbers"] (sp_ends c) := by
  refine F.ok sc_ends (fun vs H Q E h => ?_) (fun cdv A outer s H vs Q E hr h => ?_)
  · obtain ⟨r, l, M, d, day, rfl, _⟩ := h
    rfl
  · obtain ⟨r, l, M, d, day, rfl, L, hM, k⟩ := h
    have hdl : (r.ds.map V.ref).length = l.defs.length := by rw [List.length_map, L.dl]
    refine ⟨_, (pss_cons (ps_set (i := 2) sc_ends.nd rfl (by first | exact Or.inl rfl | exact Or.inr rfl) (pe_ix ix_list (pv 1) pe_int (fun _ _ => rfl)))
      (pss_cons (ps_set (i := 3) sc_ends.nd rfl (by first | exact Or.inl rfl | exact Or.inr rfl) (pe_ix ix_list (pv 1) pe_int (fun _ _ => rfl)))
      (pss_cons (ps_if (pt_cmp (pc_ge (pv 2) (pe_callB call_len_seq (by rfl) T.b_len PySem.boot_len (pa_cons (pe_fld (pv 0) rfl) pa_nil))))
      (pss_one (ps_ret (pe_lst (pa_cons (pe_gint rfl T.g_NOT_THERE) pa_nil))))
      pss_nil)
      (pss_cons (ps_set (i := 4) sc_ends.nd rfl (by first | exact Or.inl rfl | exact Or.inr rfl) (pe_ix ix_list (pe_fld (pv 0) rfl) (pv 2) (fun _ _ => rfl)))
      (pss_cons (ps_if (pt_val (pe_fn D_wrong_end (hr.mono (by decide)) rfl (pa_cons (pe_fld (pv 4) rfl) (pa_cons (pv 3) pa_nil))))
      (pss_one (ps_ret (pe_lst (pa_cons (pe_gint rfl T.g_WRONG) pa_nil))))
      pss_nil)
      (pss_cons (ps_fld (pv 4) (pv 3) rfl)
      (pss_one (ps_ret (pe_lst (pa_cons pe_int pa_nil)))))))))), ?_⟩
    try dsimp only [cx_K]
    refine ⟨_, rfl, M, _, _, _, rfl, rfl, SqL.of hM, at_nat (j := 0) rfl, ?_⟩
    refine ⟨_, rfl, M, _, _, _, rfl, rfl, SqL.of hM, at_nat (j := 1) rfl, ?_⟩
    refine ⟨_, rfl, _, rfl, r.a, c.L, r.dx, _, _, rfl, L.ins, T.clL, T.nL_defs, lF_defs, r.da, _, rfl, .inl (SqL.of L.defs), _, _, rfl, rfl, _, rfl, ?_⟩
    refine ite2 (fun h => ?_) (fun h => ?_)
    · have h : ((r.ds.map V.ref).length : Int) ≤ (d : Int) := of_decide_eq_true h
      rw [hdl] at h
      exact k.one L (step_ends_none (List.getElem?_eq_none (Int.ofNat_le.mp h))) (Same.refl _)
    · have h : ¬ ((r.ds.map V.ref).length : Int) ≤ (d : Int) := fun z => h (decide_eq_true z)
      rw [hdl] at h
      have hd : d < l.defs.length := Nat.lt_of_not_le fun z => h (Int.ofNat_le.mpr z)
      have hx := def_get hd
      obtain ⟨p, dx, b, e1, e2, e3, e4⟩ := L.defAt hx
      have estep : Si51.step l (.ends d day) = if day ≤ (Si51.def_ l d).from_ ∨ 99999 < day then (l, Si51.ok (-1)) else ({ l with defs := l.defs.set d { Si51.def_ l d with to_ := some day } }, Si51.ok 0) := step_ends hx
      refine ⟨_, rfl, r.a, c.L, r.dx, _, _, rfl, L.ins, T.clL, T.nL_defs, lF_defs, _, rfl, r.da, _, _, _, rfl, rfl, SqL.of L.defs, at_nat e1, ?_⟩
      refine ⟨_, rfl, p, c.D, dx, _, _, rfl, e3, T.clD, T.nD_since, dF_since, _, rfl, (Si51.def_ l d).from_, day, rfl, _, rfl, ?_⟩
      refine ite2 (fun h => ?_) (fun h => ?_)
      · rw [Bool.or_eq_true, decide_eq_true_iff, decide_eq_true_iff] at h
        exact k.one L (by rw [estep, if_pos h]) (Same.refl _)
      · rw [Bool.or_eq_true, decide_eq_true_iff, decide_eq_true_iff] at h
        rw [estep, if_neg h] at k
        refine ⟨_, rfl, _, rfl, p, c.D, dx, _, rfl, e3, T.clD, T.nD_until, (by show 5 < 1000; decide), ?_⟩
        refine ⟨(by show 1 ≤ sizeLine; decide), fun R hR => ?_⟩
        obtain ⟨dx0, b0, f1, f2, f3, f4⟩ := L.dat d p _ e2 hx
        have eb : b0 = b ∧ dx0 = dx := by
          rw [e3] at f1
          injection f1 with f1
          injection f1 with g1 g2 g3
          have g4 := congrArg (fun fs => List.lookup ("body" : Str) fs) g3
          have g4 : some (V.ref b) = some (V.ref b0) := g4
          injection g4 with g4
          injection g4 with g4
          exact ⟨g4.symm, g2.symm⟩
        obtain ⟨rfl, rfl⟩ := eb
        have hbp : b0 ≠ p := ne_of f2 f1 (by intro z; cases z)
        have L5 : LawAt c r (upd H p (.ins c.D dx0 (dF { Si51.def_ l d with to_ := some day } b0))) { l with defs := l.defs.set d { Si51.def_ l d with to_ := some day } } :=
          L.setDef (x' := { Si51.def_ l d with to_ := some day }) e2 hx (fun b o e hb => by rw [upd_ne hb]; exact e) upd_same (by rw [upd_ne hbp]; exact f2) f3 f4
            (L.good.setDef (L.good.part (Si51.def_ l d) (def_mem hd)) (L.good.body (Si51.def_ l d) (def_mem hd)) (by intro z; have z := Option.some.inj z; omega))
        have hRn : H R = none := by
          cases q : H R with
          | none => rfl
          | some o =>
            have hR : (upd H p (.ins c.D dx0 (dF { Si51.def_ l d with to_ := some day } b0))) R = none := hR
            by_cases hb : R = p
            · rw [hb, upd_same] at hR; cases hR
            · rw [upd_ne hb, q] at hR; cases hR
        refine k _ r R ⟨L5.same (Same.new hR), rfl, rfl, fun b o e hb => ?_, fun b hb => .inl hb⟩ hRn upd_same
        rw [upd_ne (fun z => by rw [z, hRn] at e; cases e)]
        show (upd H p (.ins c.D dx0 (dF { Si51.def_ l d with to_ := some day } b0))) b = some o
        rw [upd_ne (fun z => hb (by rw [z]; simp [Rg.muts]; exact .inr (.inr (.inr (.inr (List.mem_of_getElem? e2))))))]
        exact e
end
end Lw

end

section
set_option Elab.async false
set_option linter.all false
set_option maxRecDepth 100000
namespace Lw
open PySem PySem.Spec PyProof.Rows L2
open Si51 (Law)
/-- the first i of a list changed -/
def pre {α : Type} (g : α → α) (i : Nat) (l : List α) : List α := (l.take i).map g ++ l.drop i
theorem pre_all {α : Type} (g : α → α) (l : List α) : pre g l.length l = l.map g := by
  unfold pre
  rw [List.take_length, List.drop_length, List.append_nil]
theorem pre_get {α : Type} {g : α → α} : ∀ {l : List α} {i : Nat} {x : α}, l[i]? = some x → (pre g i l)[i]? = some x
  | [], _, _, h => by simp at h
  | a :: l, 0, x, h => h
  | a :: l, i + 1, x, h => by
    show (g a :: pre g i l)[i + 1]? = some x
    exact pre_get (l := l) h
theorem pre_set {α : Type} {g : α → α} : ∀ {l : List α} {i : Nat} {x : α}, l[i]? = some x → (pre g i l).set i (g x) = pre g (i + 1) l
  | [], _, _, h => by simp at h
  | a :: l, 0, x, h => by
    have e : a = x := Option.some.inj h
    subst e
    rfl
  | a :: l, i + 1, x, h => by
    show g a :: (pre g i l).set i (g x) = g a :: pre g (i + 1) l
    rw [pre_set (l := l) h]
def renP (a b : Nat) (p : Si51.Part) : Si51.Part := { p with text := p.text.map (ren a b) }
def renD (a b : Nat) (d : Si51.Def) : Si51.Def := { d with word := ren a b d.word, body := d.body.map (ren a b) }
theorem renamed_eq (l : Law) (a b : Nat) : Si51.renamed l a b = ⟨l.parts.map (renP a b), l.defs.map (renD a b)⟩ := rfl
section
variable {P : Program} {w : World} {K : PySem.W.Frag} {mg : Str → Option Value} {base : Heap} {c : Cl}
/-! ### rename -/
abbrev s_rename : Stmt := top 52
theorem sc_rename : FnScope ["law", "numbers", "old", "new", "part", "definition"] ["law", "numbers"] (defScope s_rename) := ⟨rfl, rfl, rfl, by decide +kernel, rfl, by decide +kernel, by decide +kernel⟩
inductive Sp_rename (c : Cl) (vs : List V) (H : Hp) (Q : VK) : Prop
  | mk (r : Rg) (l : Law) (M : Addr) (a b : Nat) (h0 : vs = [.ref r.a, .ref M]) (h1 : LawAt c r H l) (h2 : H M = some (.lst (nsV [a, b]))) (h3 : Ret c r H (Si51.step l (.rename a b)) Q) : Sp_rename c vs H Q
def sp_rename (c : Cl) : Sp := fun vs H Q _ => Sp_rename c vs H Q
inductive RenW (c : Cl) (r : Rg) (M : Addr) (a b : Nat) (H : Hp) (l : Law) (σ : L2.St) (H' : Hp) : Prop
  | mk (v4 v5 : Option V) (e : σ = [some (.ref r.a), some (.ref M), some (nV a), some (nV b), v4, v5]) (L : LawAt c r H' l) (k : ∀ q o, H q = some o → q ∉ r.muts → H' q = some o) : RenW c r M a b H l σ H'
theorem ok_rename {f : Addr} {fd : FuncData} (F : Fun K "rename" "rename" s_rename f fd) (T : Txt K mg c) (D_wrong_word : FnD P w K mg base "wrong_word" 1 ["word"] sp_wrong_word) (D_stands_somewhere : FnD P w K mg base "stands_somewhere" 1 ["law", "word"] (sp_stands_somewhere c)) (D_renamed : FnD P w K mg base "renamed" 1 ["words", "old", "new"] sp_renamed) :
    FnOk P w K mg base CX0 2 f fd ["law", "numbers"] (sp_rename c) := by
  refine F.ok sc_rename (fun vs H Q E h => ?_) (fun cdv A outer s H vs Q E hr h => ?_)
  · obtain ⟨r, l, M, a, b, rfl, _⟩ := h
    rfl
  · obtain ⟨r, l, M, a, b, rfl, L, hM, k⟩ := h
    refine ⟨_, (pss_cons (ps_set (i := 2) sc_rename.nd rfl (by first | exact Or.inl rfl | exact Or.inr rfl) (pe_ix ix_list (pv 1) pe_int (fun _ _ => rfl)))
      (pss_cons (ps_set (i := 3) sc_rename.nd rfl (by first | exact Or.inl rfl | exact Or.inr rfl) (pe_ix ix_list (pv 1) pe_int (fun _ _ => rfl)))
      (pss_cons (ps_if (PW.pt (pw_or (pt_val (pe_fn D_wrong_word (hr.mono (by decide)) rfl (pa_cons (pv 2) pa_nil))) (pw_or1 (pt_val (pe_fn D_wrong_word (hr.mono (by decide)) rfl (pa_cons (pv 3) pa_nil))))))
      (pss_one (ps_ret (pe_lst (pa_cons (pe_gint rfl T.g_WRONG) pa_nil))))
      pss_nil)
      (pss_cons (ps_if (pt_not (pt_val (pe_fn D_stands_somewhere (hr.mono (by decide)) rfl (pa_cons (pv 0) (pa_cons (pv 2) pa_nil)))))
      (pss_one (ps_ret (pe_lst (pa_cons (pe_gint rfl T.g_STANDS_NOWHERE) pa_nil))))
      pss_nil)
      (pss_cons (ps_if (pt_val (pe_fn D_stands_somewhere (hr.mono (by decide)) rfl (pa_cons (pv 0) (pa_cons (pv 3) pa_nil))))
      (pss_one (ps_ret (pe_lst (pa_cons (pe_gint rfl T.g_TAKEN) pa_nil))))
      pss_nil)
      (pss_cons (ps_for PassesOwn.never rfl (pi_list (pe_fld (pv 0) rfl)) (pg_name (i := 4) sc_rename.nd rfl (by first | exact Or.inl rfl | exact Or.inr rfl))
      (pss_one (ps_fld (pv 4) (pe_fn D_renamed (hr.mono (by decide)) rfl (pa_cons (pe_fld (pv 4) rfl) (pa_cons (pv 2) (pa_cons (pv 3) pa_nil)))) rfl)))
      (pss_cons (ps_for PassesOwn.never rfl (pi_list (pe_fld (pv 0) rfl)) (pg_name (i := 5) sc_rename.nd rfl (by first | exact Or.inl rfl | exact Or.inr rfl))
      (pss_cons (ps_fld (pv 5) (pe_fn D_renamed (hr.mono (by decide)) rfl (pa_cons (pe_fld (pv 5) rfl) (pa_cons (pv 2) (pa_cons (pv 3) pa_nil)))) rfl)
        (pss_one (ps_if (pt_cmp (pc_eqI (pe_fld (pv 5) rfl) (pv 2)))
        (pss_one (ps_fld (pv 5) (pv 3) rfl))
        pss_nil))))
      (pss_one (ps_ret (pe_lst (pa_cons pe_int pa_nil))))))))))), ?_⟩
    try dsimp only [cx_K]
    have wok2 : Si51.wordsOk [a, b] = (wok a && wok b) := by
      rw [wordsOk_eq]
      simp
    refine ⟨_, rfl, M, _, _, _, rfl, rfl, SqL.of hM, at_nat (j := 0) rfl, ?_⟩
    refine ⟨_, rfl, M, _, _, _, rfl, rfl, SqL.of hM, at_nat (j := 1) rfl, ?_⟩
    refine ⟨_, rfl, a, rfl, _, rfl, ?_⟩
    cases ha : wok a with
    | false =>
      refine iteT (iteT ?_)
      exact k.one L (by show (if _ then _ else _) = _; rw [if_pos (by rw [wok2, ha]; rfl)]) (Same.refl _)
    | true =>
      refine iteF ⟨_, rfl, b, rfl, _, rfl, ?_⟩
      cases hb : wok b with
      | false =>
        refine iteT ?_
        exact k.one L (by show (if _ then _ else _) = _; rw [if_pos (by rw [wok2, ha, hb]; rfl)]) (Same.refl _)
      | true =>
        refine iteF ?_
        have nok : ¬ Si51.wordsOk [a, b] = false := by rw [wok2, ha, hb]; decide
        refine ⟨_, rfl, _, rfl, r, l, a, rfl, L, _, rfl, ?_⟩
        cases hsa : Si51.stands l a with
        | false =>
          refine iteT ?_
          exact k.one L (by show (if _ then _ else _) = _; rw [if_neg nok, if_pos hsa]) (Same.refl _)
        | true =>
          refine iteF ?_
          have nsa : ¬ Si51.stands l a = false := by rw [hsa]; decide
          refine ⟨_, rfl, _, rfl, r, l, b, rfl, L, _, rfl, ?_⟩
          cases hsb : Si51.stands l b with
          | true =>
            refine iteT ?_
            exact k.one L (by show (if _ then _ else _) = _; rw [if_neg nok, if_neg nsa, if_pos hsb]) (Same.refl _)
          | false =>
            refine iteF ?_
            have est : Si51.step l (.rename a b) = (Si51.renamed l a b, Si51.ok 0) := by
              show (if _ then _ else _) = _
              rw [if_neg nok, if_neg nsa, if_neg (by rw [hsb]; decide)]
            rw [est, renamed_eq] at k
            -- the parts
            refine ⟨_, rfl, r.a, c.L, r.dx, _, _, rfl, L.ins, T.clL, T.nL_parts, lF_parts, r.pa, rfl, ⟨_, SqL.of L.parts⟩, ?_⟩
            refine for_walk (walk_list K r.pa (r.ps.map V.ref)) (fun i σ H' => RenW c r M a b H ⟨pre (renP a b) i l.parts, l.defs⟩ σ H')
              ⟨none, none, rfl, L, fun _ _ e _ => e⟩ (fun i σ H' _ ⟨_, _, _, L', _⟩ => SqL.of L'.parts) ?_ ?_
            · rintro i x σ H1 H1' hi ⟨v4, v5, rfl, L1, kp⟩ ⟨rfl, hx⟩
              have hil : i < l.parts.length := by rw [List.length_map, L.pl] at hi; exact hi
              have hxp := List.getElem?_eq_getElem hil
              have hxq : (pre (renP a b) i l.parts)[i]? = some l.parts[i] := pre_get hxp
              obtain ⟨p, dx, wd, e1, e2, e3, e4⟩ := L1.partAt hxq
              rw [e1] at hx
              obtain rfl := Option.some.inj hx
              refine ⟨_, rfl, p, c.P, dx, _, _, rfl, e3, T.clP, T.nP_words, pF_words, _, rfl, _, rfl, wd, l.parts[i].text, a, b, rfl, e4, Nat.le_trans (L.good.text _ (List.getElem_mem hil)) (by decide), fun H2 R s2 hR hRl => ?_⟩
              refine ⟨_, rfl, p, c.P, dx, _, rfl, s2 _ _ e3, T.clP, T.nP_words, (by show 2 < 1000; decide), ?_⟩
              have hRp : R ≠ p := fun z => by rw [z, e3] at hR; cases hR
              refine ⟨_, _, rfl, ?_, fun q o e hq => ?_⟩
              · have L3 := LawAt.setPart (t := l.parts[i].text.map (ren a b)) (H' := upd H2 p (.ins c.P dx (pF l.parts[i].up R))) L1 e2 hxq (fun q o e hq => by rw [upd_ne hq]; exact s2 _ _ e) upd_same (by rw [upd_ne hRp]; exact hRl) (fun z => by rw [z, L1.parts] at hR; cases hR) ⟨fun z => (by rw [z, L1.defs] at hR; cases hR), fun hb => L1.bans _ hb hR⟩
                  (L1.good.setPart hxq (by rw [List.length_map]; exact L.good.text _ (List.getElem_mem hil)))
                rw [← pre_set hxp]
                exact L3
              · rw [upd_ne (fun z => hq (by rw [z]; simp [Rg.muts]; exact .inr (.inr (.inr (.inl (List.mem_of_getElem? e2))))))]
                exact s2 _ _ (kp q o e hq)
            · rintro σ H1 ⟨v4, v5, rfl, L1, kp⟩
              rw [List.length_map, L.pl, pre_all] at L1
              -- the definitions
              refine ⟨_, rfl, r.a, c.L, r.dx, _, _, rfl, L1.ins, T.clL, T.nL_defs, lF_defs, r.da, rfl, ⟨_, SqL.of L1.defs⟩, ?_⟩
              refine for_walk (walk_list K r.da (r.ds.map V.ref)) (fun i σ H' => RenW c r M a b H ⟨l.parts.map (renP a b), pre (renD a b) i l.defs⟩ σ H')
                ⟨_, _, rfl, L1, kp⟩ (fun i σ H' _ ⟨_, _, _, L', _⟩ => SqL.of L'.defs) ?_ ?_
              · rintro i x σ H2 H2' hi ⟨v4, v5, rfl, L2, kp⟩ ⟨rfl, hx⟩
                have hil : i < l.defs.length := by rw [List.length_map, L.dl] at hi; exact hi
                have hxp := List.getElem?_eq_getElem hil
                have hxq : (pre (renD a b) i l.defs)[i]? = some l.defs[i] := pre_get hxp
                obtain ⟨p, dx, bd, e1, e2, e3, e4⟩ := L2.defAt hxq
                rw [e1] at hx
                obtain rfl := Option.some.inj hx
                refine ⟨_, rfl, p, c.D, dx, _, _, rfl, e3, T.clD, T.nD_body, dF_body, _, rfl, _, rfl, bd, l.defs[i].body, a, b, rfl, e4, Nat.le_trans (L.good.body _ (List.getElem_mem hil)) (by decide), fun H3 R s3 hR hRl => ?_⟩
                refine ⟨_, rfl, p, c.D, dx, _, rfl, s3 _ _ e3, T.clD, T.nD_body, (by show 5 < 1000; decide), ?_⟩
                have hRp : R ≠ p := fun z => by rw [z, e3] at hR; cases hR
                have fin : ∀ (d' : Si51.Def), d' = renD a b l.defs[i] → LawAt c r (upd H3 p (.ins c.D dx (dF d' R))) ⟨l.parts.map (renP a b), pre (renD a b) (i + 1) l.defs⟩ ∧ ∀ q o, H q = some o → q ∉ r.muts → (upd H3 p (.ins c.D dx (dF d' R))) q = some o := fun d' hd' => by
                  subst hd'
                  refine ⟨?_, fun q o e hq => ?_⟩
                  · have L3 := LawAt.setDef (x' := renD a b l.defs[i]) (H' := upd H3 p (.ins c.D dx (dF (renD a b l.defs[i]) R))) L2 e2 hxq (fun q o e hq => by rw [upd_ne hq]; exact s3 _ _ e) upd_same (by rw [upd_ne hRp]; exact hRl) (fun z => by rw [z, L2.parts] at hR; cases hR) ⟨fun z => (by rw [z, L2.defs] at hR; cases hR), fun hb => L2.bans _ hb hR⟩
                      (L2.good.setDef (L2.good.part l.defs[i] (List.mem_of_getElem? hxq)) (by show (l.defs[i].body.map (ren a b)).length ≤ 20; rw [List.length_map]; exact L.good.body _ (List.getElem_mem hil)) (L.good.till l.defs[i] (List.getElem_mem hil)))
                    rw [← pre_set hxp]
                    exact L3
                  · rw [upd_ne (fun z => hq (by rw [z]; simp [Rg.muts]; exact .inr (.inr (.inr (.inr (List.mem_of_getElem? e2))))))]
                    exact s3 _ _ (kp q o e hq)
                refine ⟨_, rfl, p, c.D, dx, _, _, rfl, upd_same, T.clD, T.nD_word, (show List.lookup ("word" : Str) (dF { l.defs[i] with body := l.defs[i].body.map (ren a b) } R) = some (nV l.defs[i].word) from rfl), _, rfl, _, _, rfl, rfl, _, rfl, ?_⟩
                refine ite2 (fun h => ?_) (fun h => ?_)
                · have h : (l.defs[i].word : Int) = (a : Int) := of_decide_eq_true h
                  have h : l.defs[i].word = a := Int.ofNat_inj.mp h
                  refine ⟨_, rfl, _, rfl, p, c.D, dx, _, rfl, upd_same, T.clD, T.nD_word, (by show 5 < 1000; decide), ?_⟩
                  rw [upd_upd]
                  obtain ⟨f1, f2⟩ := fin { l.defs[i] with body := l.defs[i].body.map (ren a b), word := b } (by unfold renD ren; rw [h, if_pos rfl])
                  exact ⟨_, _, rfl, f1, f2⟩
                · have h : ¬ (l.defs[i].word : Int) = (a : Int) := fun z => h (decide_eq_true z)
                  have h : ¬ l.defs[i].word = a := fun z => h (by rw [z])
                  obtain ⟨f1, f2⟩ := fin { l.defs[i] with body := l.defs[i].body.map (ren a b) } (by unfold renD; rw [show ren a b l.defs[i].word = l.defs[i].word from if_neg h])
                  exact ⟨_, _, rfl, f1, f2⟩
              · rintro σ H2 ⟨v4, v5, rfl, L2, kp⟩
                rw [List.length_map, L.dl, pre_all] at L2
                refine ⟨(by show 1 ≤ sizeLine; decide), fun R hR => ?_⟩
                have hRM : ∀ q ∈ r.muts, H2 q ≠ none := fun q hq => by
                  simp only [Rg.muts, List.mem_cons, List.mem_append] at hq
                  rcases hq with z | z | z | z | z
                  · rw [z, L2.ins]; intro y; cases y
                  · rw [z, L2.parts]; intro y; cases y
                  · rw [z, L2.defs]; intro y; cases y
                  · obtain ⟨i, hi, e⟩ := List.getElem_of_mem z
                    have h2 := List.getElem?_eq_getElem (show i < (l.parts.map (renP a b)).length by rw [List.length_map, ← L.pl]; exact hi)
                    obtain ⟨_, _, f, _⟩ := L2.pat i _ _ (List.getElem?_eq_getElem hi) h2
                    rw [← e, f]; intro y; cases y
                  · obtain ⟨i, hi, e⟩ := List.getElem_of_mem z
                    have h2 := List.getElem?_eq_getElem (show i < (l.defs.map (renD a b)).length by rw [List.length_map, ← L.dl]; exact hi)
                    obtain ⟨_, _, f, _⟩ := L2.dat i _ _ (List.getElem?_eq_getElem hi) h2
                    rw [← e, f]; intro y; cases y
                have hRn : H R = none := by
                  cases q : H R with
                  | none => rfl
                  | some o =>
                    by_cases hm : R ∈ r.muts
                    · exact absurd hR (hRM R hm)
                    · rw [kp R o q hm] at hR; cases hR
                refine k _ r R ⟨L2.same (Same.new hR), rfl, rfl, fun q o e hq => ?_, fun q hq => .inl hq⟩ hRn upd_same
                rw [upd_ne (fun z => by rw [z, hRn] at e; cases e)]
                exact kp q o e hq
/-! ### means -/
abbrev s_means : Stmt := top 53
theorem sc_means : FnScope ["law", "numbers", "part", "word", "day", "number", "definition"] ["law", "numbers"] (defScope s_means) := ⟨rfl, rfl, rfl, by decide +kernel, rfl, by decide +kernel, by decide +kernel⟩
inductive Sp_means (c : Cl) (vs : List V) (H : Hp) (Q : VK) : Prop
  | mk (r : Rg) (l : Law) (M : Addr) (p n day : Nat) (h0 : vs = [.ref r.a, .ref M]) (h1 : LawAt c r H l) (h2 : H M = some (.lst (nsV [p, n, day]))) (h3 : Ret c r H (Si51.step l (.means p n day)) Q) : Sp_means c vs H Q
def sp_means (c : Cl) : Sp := fun vs H Q _ => Sp_means c vs H Q
theorem ints_nsV (l : List Nat) : (Si51.ints l).map V.int = nsV l := by
  unfold Si51.ints nsV
  rw [List.map_map]
  rfl
theorem step_means (l : Law) (p n day : Nat) : Si51.step l (.means p n day) = (l, if Si51.there l p = false then Si51.ok (-2) else match Si51.means l p n day with
    | none => Si51.ok 0
    | some d => ⟨1, Si51.ints (d :: (Si51.def_ l d).part :: (Si51.def_ l d).body)⟩) := rfl
theorem ok_means {f : Addr} {fd : FuncData} (F : Fun K "means" "means" s_means f fd) (T : Txt K mg c) (D_definition_at : FnD P w K mg base "definition_at" 1 ["law", "counting", "part", "word"] (sp_definition_at c)) (D_counting_on : FnD P w K mg base "counting_on" 3 ["law", "day"] (sp_counting_on c)) :
    FnOk P w K mg base CX0 4 f fd ["law", "numbers"] (sp_means c) := by
  refine F.ok sc_means (fun vs H Q E h => ?_) (fun cdv A outer s H vs Q E hr h => ?_)
  · obtain ⟨r, l, M, p, n, day, rfl, _⟩ := h
    rfl
  · obtain ⟨r, l, M, p, n, day, rfl, L, hM, k⟩ := h
    have hpl : (r.ps.map V.ref).length = l.parts.length := by rw [List.length_map, L.pl]
    refine ⟨_, (pss_cons (ps_set (i := 2) sc_means.nd rfl (by first | exact Or.inl rfl | exact Or.inr rfl) (pe_ix ix_list (pv 1) pe_int (fun _ _ => rfl)))
      (pss_cons (ps_set (i := 3) sc_means.nd rfl (by first | exact Or.inl rfl | exact Or.inr rfl) (pe_ix ix_list (pv 1) pe_int (fun _ _ => rfl)))
      (pss_cons (ps_set (i := 4) sc_means.nd rfl (by first | exact Or.inl rfl | exact Or.inr rfl) (pe_ix ix_list (pv 1) pe_int (fun _ _ => rfl)))
      (pss_cons (ps_if (pt_cmp (pc_ge (pv 2) (pe_callB call_len_seq (by rfl) T.b_len PySem.boot_len (pa_cons (pe_fld (pv 0) rfl) pa_nil))))
      (pss_one (ps_ret (pe_lst (pa_cons (pe_gint rfl T.g_NOT_THERE) pa_nil))))
      pss_nil)
      (pss_cons (ps_set (i := 5) sc_means.nd rfl (by first | exact Or.inl rfl | exact Or.inr rfl) (pe_fn D_definition_at (hr.mono (by decide)) rfl (pa_cons (pv 0) (pa_cons (pe_fn D_counting_on (hr.mono (by decide)) rfl (pa_cons (pv 0) (pa_cons (pv 4) pa_nil))) (pa_cons (pv 2) (pa_cons (pv 3) pa_nil))))))
      (pss_cons (ps_if (pt_cmp (pc_isN (pv 5)))
      (pss_one (ps_ret (pe_lst (pa_cons pe_int pa_nil))))
      pss_nil)
      (pss_cons (ps_set (i := 6) sc_means.nd rfl (by first | exact Or.inl rfl | exact Or.inr rfl) (pe_ix ix_list (pe_fld (pv 0) rfl) (pv 5) (fun _ _ => rfl)))
      (pss_one (ps_ret (pe_op op_cat (pe_lst (pa_cons pe_int (pa_cons (pv 5) (pa_cons (pe_fld (pv 6) rfl) pa_nil)))) (pe_fld (pv 6) rfl))))))))))), ?_⟩
    try dsimp only [cx_K]
    refine ⟨_, rfl, M, _, _, _, rfl, rfl, SqL.of hM, at_nat (j := 0) rfl, ?_⟩
    refine ⟨_, rfl, M, _, _, _, rfl, rfl, SqL.of hM, at_nat (j := 1) rfl, ?_⟩
    refine ⟨_, rfl, M, _, _, _, rfl, rfl, SqL.of hM, at_nat (j := 2) rfl, ?_⟩
    refine ⟨_, rfl, _, rfl, r.a, c.L, r.dx, _, _, rfl, L.ins, T.clL, T.nL_parts, lF_parts, r.pa, _, rfl, .inl (SqL.of L.parts), _, _, rfl, rfl, _, rfl, ?_⟩
    refine ite2 (fun h => ?_) (fun h => ?_)
    · have h : ((r.ps.map V.ref).length : Int) ≤ (p : Int) := of_decide_eq_true h
      rw [hpl] at h
      exact k.one L (by rw [step_means, if_pos (by rw [there_iff]; exact decide_eq_false (Nat.not_lt_of_le (Int.ofNat_le.mp h)))]) (Same.refl _)
    · have h : ¬ ((r.ps.map V.ref).length : Int) ≤ (p : Int) := fun z => h (decide_eq_true z)
      rw [hpl] at h
      have hp : p < l.parts.length := Nat.lt_of_not_le fun z => h (Int.ofNat_le.mpr z)
      have nth : ¬ Si51.there l p = false := by rw [there_iff, decide_eq_true hp]; decide
      rw [step_means, if_neg nth] at k
      refine ⟨_, rfl, _, rfl, _, rfl, r, l, day, rfl, L, fun H1 C s1 hCn hC => ?_⟩
      refine ⟨_, rfl, _, rfl, r, l, day, C, p, n, rfl, L.same s1, hC, hp, fun H2 s2 => ?_⟩
      have s12 := s1.trans s2
      cases hm : Si51.means l p n day with
      | none =>
        rw [hm] at k
        refine ⟨_, rfl, _, rfl, iteT ?_⟩
        exact k.one L rfl s12
      | some d =>
        rw [hm] at k
        have hd := means_lt hm
        have L2 := L.same s12
        obtain ⟨q, dx, b, e1, e2, e3, e4⟩ := L2.defAt (def_get hd)
        refine ⟨_, rfl, _, rfl, iteF ?_⟩
        refine ⟨_, rfl, r.a, c.L, r.dx, _, _, rfl, L2.ins, T.clL, T.nL_defs, lF_defs, _, rfl, r.da, _, _, _, rfl, rfl, SqL.of L2.defs, at_nat e1, ?_⟩
        refine ⟨_, rfl, _, rfl, q, c.D, dx, _, _, rfl, e3, T.clD, T.nD_part, dF_part, (by show 3 ≤ sizeLine; decide), fun Y hY => ?_⟩
        have s3 : Same H2 (upd H2 Y (.lst [.int 1, nV d, nV (Si51.def_ l d).part])) := Same.new hY
        refine ⟨_, rfl, q, c.D, dx, _, _, rfl, s3 _ _ e3, T.clD, T.nD_body, dF_body, Y, b, _, _, rfl, rfl, upd_same, s3 _ _ e4, ?_, fun R hR => ?_⟩
        · rw [nsV_len]
          have := L.good.body _ (def_mem hd)
          exact Nat.le_of_lt (small1000 (by show 3 + _ ≤ 1000; omega))
        · have s4 := s12.trans s3
          refine k.read L rfl (xs := [.int 1, nV d, nV (Si51.def_ l d).part] ++ nsV (Si51.def_ l d).body) ?_ (s4.upd (s4.free hR)) (s4.free hR) upd_same
          show _ = V.int 1 :: (Si51.ints (d :: (Si51.def_ l d).part :: (Si51.def_ l d).body)).map V.int
          rw [ints_nsV]
          rfl
theorem listed_ansV (x : List Nat) : ansV (Si51.listed x) = .int (x.length : Int) :: nsV x := by
  show V.int (x.length : Int) :: (Si51.ints x).map V.int = _
  rw [ints_nsV]
end
end Lw

end

section
set_option Elab.async false
set_option linter.all false
set_option maxRecDepth 100000
namespace Lw
open PySem PySem.Spec PyProof.Rows L2
open Si51 (Law)
section
variable {P : Program} {w : World} {K : PySem.W.Frag} {mg : Str → Option Value} {base : Heap} {c : Cl}
/-! ### too_long, counted, spelled_answer -/
abbrev s_too_long : Stmt := top 27
theorem sc_too_long : FnScope ["longer"] ["longer"] (defScope s_too_long) := ⟨rfl, rfl, rfl, by decide +kernel, rfl, by decide +kernel, by decide +kernel⟩
/-- a text spelled out, cut; or nothing -/
def CutAs (H : Hp) (v : V) : Option (List Nat) → Prop
  | none => v = .non
  | some x => ∃ R, v = .ref R ∧ H R = some (.lst (nsV (x.take 1001)))
def longO : Option (List Nat) → Bool
  | none => false
  | some x => decide (1000 < x.length)
inductive Sp_too_long (vs : List V) (H : Hp) (Q : VK) : Prop
  | mk (v : V) (o : Option (List Nat)) (h0 : vs = [v]) (h1 : CutAs H v o) (h2 : Q (.bl (longO o)) H) : Sp_too_long vs H Q
def sp_too_long : Sp := fun vs H Q _ => Sp_too_long vs H Q
theorem ok_too_long {f : Addr} {fd : FuncData} (F : Fun K "too_long" "too_long" s_too_long f fd) (T : Txt K mg c) : FnOk P w K mg base CX0 1 f fd ["longer"] sp_too_long := by
  refine F.ok sc_too_long (fun vs H Q E h => ?_) (fun cdv A outer s H vs Q E hr h => ?_)
  · obtain ⟨v, o, rfl, _⟩ := h
    rfl
  · obtain ⟨v, o, rfl, hv, k⟩ := h
    refine ⟨_, (pss_one (ps_ret (pe_and (pe_cmp (pc_notN (pv 0))) (pe_one (pe_cmp (pc_gt (pe_callB call_len_seq (by rfl) T.b_len PySem.boot_len (pa_cons (pv 0) pa_nil)) (pe_gint rfl T.g_MOST_SPELLED))))))), ?_⟩
    try dsimp only [cx_K]
    cases o with
    | none =>
      have hv : v = .non := hv
      subst hv
      exact ⟨_, rfl, _, rfl, iteF k⟩
    | some x =>
      obtain ⟨R, rfl, hR⟩ := hv
      refine ⟨_, rfl, _, rfl, iteT ?_⟩
      refine ⟨_, rfl, R, _, rfl, .inl (SqL.of hR), _, _, rfl, rfl, ?_⟩
      have e : decide ((1000 : Int) < ((nsV (x.take 1001)).length : Int)) = longO (some x) := by
        show _ = decide (1000 < x.length)
        rw [nsV_len, List.length_take]
        refine decide_eq_decide.mpr ⟨fun z => by omega, fun z => by omega⟩
      show Q (.bl (decide ((1000 : Int) < ((nsV (x.take 1001)).length : Int)))) H
      rw [e]
      exact k
abbrev s_counted : Stmt := top 46
theorem sc_counted : FnScope ["found"] ["found"] (defScope s_counted) := ⟨rfl, rfl, rfl, by decide +kernel, rfl, by decide +kernel, by decide +kernel⟩
inductive Sp_counted (vs : List V) (H : Hp) (Q : VK) : Prop
  | mk (W : Addr) (xs : List Nat) (h0 : vs = [.ref W]) (h1 : H W = some (.lst (nsV xs))) (h2 : xs.length ≤ 1000) (h3 : ∀ (H' : Hp) (R : Addr), Same H H' → H R = none → H' R = some (.lst (ansV (Si51.listed xs))) → Q (.ref R) H') : Sp_counted vs H Q
def sp_counted : Sp := fun vs H Q _ => Sp_counted vs H Q
theorem ok_counted {f : Addr} {fd : FuncData} (F : Fun K "counted" "counted" s_counted f fd) (T : Txt K mg c) : FnOk P w K mg base CX0 1 f fd ["found"] sp_counted := by
  refine F.ok sc_counted (fun vs H Q E h => ?_) (fun cdv A outer s H vs Q E hr h => ?_)
  · obtain ⟨W, xs, rfl, _⟩ := h
    rfl
  · obtain ⟨W, xs, rfl, hW, hlen, k⟩ := h
    refine ⟨_, (pss_one (ps_ret (pe_op op_cat (pe_lst (pa_cons (pe_callB call_len_seq (by rfl) T.b_len PySem.boot_len (pa_cons (pv 0) pa_nil)) pa_nil)) (pv 0)))), ?_⟩
    try dsimp only [cx_K]
    refine ⟨_, rfl, W, _, rfl, .inl (SqL.of hW), (by show 1 ≤ sizeLine; decide), fun Y hY => ?_⟩
    have s4 : Same H (upd H Y (.lst [.int ((nsV xs).length : Int)])) := Same.new hY
    refine ⟨_, rfl, Y, W, _, _, rfl, rfl, upd_same, s4 _ _ hW, ?_, fun Z hZ => ?_⟩
    · rw [nsV_len]
      exact Nat.le_of_lt (Nat.lt_of_le_of_lt (show _ ≤ 2000 by show 1 + _ ≤ 2000; omega) (by decide))
    · refine k _ Z (s4.upd (s4.free hZ)) (s4.free hZ) ?_
      rw [upd_same, listed_ansV, nsV_len]
      rfl
abbrev s_spelled_answer : Stmt := top 47
theorem sc_spelled_answer : FnScope ["longer"] ["longer"] (defScope s_spelled_answer) := ⟨rfl, rfl, rfl, by decide +kernel, rfl, by decide +kernel, by decide +kernel⟩
def toldO : Option (List Nat) → Si51.Ans
  | none => Si51.ok (-7)
  | some x => if 1000 < x.length then Si51.ok (-5) else Si51.listed x
theorem told_toldO (l : Law) (day p : Nat) (t : List Nat) : Si51.told l day p t = toldO (Si51.spelled l day p t) := by
  rw [told_eq]
  cases Si51.spelled l day p t <;> rfl
inductive Sp_spelled_answer (vs : List V) (H : Hp) (Q : VK) : Prop
  | mk (v : V) (o : Option (List Nat)) (h0 : vs = [v]) (h1 : CutAs H v o) (h2 : ∀ (H' : Hp) (R : Addr), Same H H' → H R = none → H' R = some (.lst (ansV (toldO o))) → Q (.ref R) H') : Sp_spelled_answer vs H Q
def sp_spelled_answer : Sp := fun vs H Q _ => Sp_spelled_answer vs H Q
theorem ok_spelled_answer {f : Addr} {fd : FuncData} (F : Fun K "spelled_answer" "spelled_answer" s_spelled_answer f fd) (T : Txt K mg c) (D_too_long : FnD P w K mg base "too_long" 1 ["longer"] sp_too_long) (D_counted : FnD P w K mg base "counted" 1 ["found"] sp_counted) :
    FnOk P w K mg base CX0 2 f fd ["longer"] sp_spelled_answer := by
  refine F.ok sc_spelled_answer (fun vs H Q E h => ?_) (fun cdv A outer s H vs Q E hr h => ?_)
  · obtain ⟨v, o, rfl, _⟩ := h
    rfl
  · obtain ⟨v, o, rfl, hv, k⟩ := h
    refine ⟨_, (pss_cons (ps_if (pt_cmp (pc_isN (pv 0)))
      (pss_one (ps_ret (pe_lst (pa_cons (pe_gint rfl T.g_IN_A_CIRCLE) pa_nil))))
      pss_nil)
      (pss_cons (ps_if (pt_val (pe_fn D_too_long (hr.mono (by decide)) rfl (pa_cons (pv 0) pa_nil)))
      (pss_one (ps_ret (pe_lst (pa_cons (pe_gint rfl T.g_TOO_MUCH) pa_nil))))
      pss_nil)
      (pss_one (ps_ret (pe_fn D_counted (hr.mono (by decide)) rfl (pa_cons (pv 0) pa_nil)))))), ?_⟩
    try dsimp only [cx_K]
    cases o with
    | none =>
      have hv' : v = .non := hv
      subst hv'
      refine ⟨_, rfl, _, rfl, iteT ⟨(by show 1 ≤ sizeLine; decide), fun R hR => ?_⟩⟩
      exact k _ R (Same.new hR) hR upd_same
    | some x =>
      obtain ⟨R, rfl, hR⟩ := id hv
      refine ⟨_, rfl, _, rfl, iteF ?_⟩
      refine ⟨_, rfl, .ref R, some x, rfl, hv, _, rfl, ?_⟩
      refine ite2 (fun h => ?_) (fun h => ?_)
      · have h : 1000 < x.length := of_decide_eq_true h
        refine ⟨(by show 1 ≤ sizeLine; decide), fun Z hZ => ?_⟩
        refine k _ Z (Same.new hZ) hZ ?_
        rw [upd_same]
        show _ = some (HO.lst (ansV (if 1000 < x.length then Si51.ok (-5) else Si51.listed x)))
        rw [if_pos h]
        rfl
      · have h : ¬ 1000 < x.length := fun z => h (decide_eq_true z)
        have ex : x.take 1001 = x := List.take_of_length_le (by omega)
        rw [ex] at hR
        refine ⟨_, rfl, R, x, rfl, hR, by omega, fun H' Z s hZ e => k H' Z s hZ ?_⟩
        rw [e]
        show _ = some (HO.lst (ansV (if 1000 < x.length then Si51.ok (-5) else Si51.listed x)))
        rw [if_neg h]
/-! ### spell -/
abbrev s_spell : Stmt := top 54
theorem sc_spell : FnScope ["law", "numbers", "part", "day", "words"] ["law", "numbers"] (defScope s_spell) := ⟨rfl, rfl, rfl, by decide +kernel, rfl, by decide +kernel, by decide +kernel⟩
inductive Sp_spell (c : Cl) (vs : List V) (H : Hp) (Q : VK) : Prop
  | mk (r : Rg) (l : Law) (M : Addr) (p day : Nat) (t : List Nat) (h0 : vs = [.ref r.a, .ref M]) (h1 : LawAt c r H l) (h2 : H M = some (.lst (nsV (p :: day :: t)))) (h3 : Ret c r H (Si51.step l (.spell p day t)) Q) : Sp_spell c vs H Q
def sp_spell (c : Cl) : Sp := fun vs H Q _ => Sp_spell c vs H Q
theorem step_spell (l : Law) (p day : Nat) (t : List Nat) : Si51.step l (.spell p day t) = (l, if Si51.there l p = false then Si51.ok (-2) else if Si51.wordsOk t = false then Si51.ok (-1) else Si51.told l day p t) := rfl
theorem ok_spell {f : Addr} {fd : FuncData} (F : Fun K "spell" "spell" s_spell f fd) (T : Txt K mg c) (D_wrong_words : FnD P w K mg base "wrong_words" 2 ["words"] sp_wrong_words) (D_spelled_out : FnD P w K mg base "spelled_out" 6 ["law", "part", "day", "words"] (sp_spelled_out c)) (D_spelled_answer : FnD P w K mg base "spelled_answer" 2 ["longer"] sp_spelled_answer) :
    FnOk P w K mg base CX0 7 f fd ["law", "numbers"] (sp_spell c) := by
  refine F.ok sc_spell (fun vs H Q E h => ?_) (fun cdv A outer s H vs Q E hr h => ?_)
  · obtain ⟨r, l, M, p, day, t, rfl, _⟩ := h
    rfl
  · obtain ⟨r, l, M, p, day, t, rfl, L, hM, k⟩ := h
    have hpl : (r.ps.map V.ref).length = l.parts.length := by rw [List.length_map, L.pl]
    refine ⟨_, (pss_cons (ps_set (i := 2) sc_spell.nd rfl (by first | exact Or.inl rfl | exact Or.inr rfl) (pe_ix ix_list (pv 1) pe_int (fun _ _ => rfl)))
      (pss_cons (ps_set (i := 3) sc_spell.nd rfl (by first | exact Or.inl rfl | exact Or.inr rfl) (pe_ix ix_list (pv 1) pe_int (fun _ _ => rfl)))
      (pss_cons (ps_set (i := 4) sc_spell.nd rfl (by first | exact Or.inl rfl | exact Or.inr rfl) (pe_slice sl_list (pv 1) (po_some pe_int) po_none))
      (pss_cons (ps_if (pt_cmp (pc_ge (pv 2) (pe_callB call_len_seq (by rfl) T.b_len PySem.boot_len (pa_cons (pe_fld (pv 0) rfl) pa_nil))))
      (pss_one (ps_ret (pe_lst (pa_cons (pe_gint rfl T.g_NOT_THERE) pa_nil))))
      pss_nil)
      (pss_cons (ps_if (pt_val (pe_fn D_wrong_words (hr.mono (by decide)) rfl (pa_cons (pv 4) pa_nil)))
      (pss_one (ps_ret (pe_lst (pa_cons (pe_gint rfl T.g_WRONG) pa_nil))))
      pss_nil)
      (pss_one (ps_ret (pe_fn D_spelled_answer (hr.mono (by decide)) rfl (pa_cons (pe_fn D_spelled_out (hr.mono (by decide)) rfl (pa_cons (pv 0) (pa_cons (pv 2) (pa_cons (pv 3) (pa_cons (pv 4) pa_nil))))) pa_nil))))))))), ?_⟩
    try dsimp only [cx_K]
    refine ⟨_, rfl, M, _, _, _, rfl, rfl, SqL.of hM, at_nat (j := 0) rfl, ?_⟩
    refine ⟨_, rfl, M, _, _, _, rfl, rfl, SqL.of hM, at_nat (j := 1) rfl, ?_⟩
    refine ⟨_, rfl, _, rfl, M, _, rfl, SqL.of hM, fun Wd hWd => ?_⟩
    have s1 : Same H (upd H Wd (.lst (cutV (nsV (p :: day :: t)) (some 2) none))) := Same.new hWd
    have hW : (upd H Wd (.lst (cutV (nsV (p :: day :: t)) (some 2) none))) Wd = some (.lst (nsV t)) := by
      rw [upd_same, show cutV (nsV (p :: day :: t)) (some 2) none = (nsV (p :: day :: t)).drop 2 from cutV_drop _ 2]
      rfl
    have L1 := L.same s1
    refine ⟨_, rfl, _, rfl, r.a, c.L, r.dx, _, _, rfl, L1.ins, T.clL, T.nL_parts, lF_parts, r.pa, _, rfl, .inl (SqL.of L1.parts), _, _, rfl, rfl, _, rfl, ?_⟩
    refine ite2 (fun h => ?_) (fun h => ?_)
    · have h : ((r.ps.map V.ref).length : Int) ≤ (p : Int) := of_decide_eq_true h
      rw [hpl] at h
      exact k.one L (by rw [step_spell, if_pos (by rw [there_iff]; exact decide_eq_false (Nat.not_lt_of_le (Int.ofNat_le.mp h)))]) s1
    · have h : ¬ ((r.ps.map V.ref).length : Int) ≤ (p : Int) := fun z => h (decide_eq_true z)
      rw [hpl] at h
      have hp : p < l.parts.length := Nat.lt_of_not_le fun z => h (Int.ofNat_le.mpr z)
      have nth : ¬ Si51.there l p = false := by rw [there_iff, decide_eq_true hp]; decide
      rw [step_spell, if_neg nth] at k
      refine ⟨_, rfl, Wd, t, rfl, hW, fun H2 s2 => ⟨_, rfl, ?_⟩⟩
      cases hok : Si51.wordsOk t with
      | false =>
        rw [if_pos hok] at k
        exact iteT (k.one L rfl (s1.trans s2))
      | true =>
        rw [if_neg (by rw [hok]; decide), told_toldO] at k
        have ht20 : t.length ≤ 20 := by
          rw [wordsOk_eq, Bool.and_eq_true] at hok
          exact of_decide_eq_true hok.1
        refine iteF ?_
        have s12 := s1.trans s2
        have fin : ∀ (v : V) (H3 : Hp), Same H2 H3 → CutAs H3 v (Si51.spelled l day p t) → sp_spelled_answer [v] H3 Q E0 := fun v H3 s3 hv =>
          ⟨v, _, rfl, hv, fun H' R s hR e => k.read L rfl (xs := ansV (toldO (Si51.spelled l day p t))) rfl ((s12.trans s3).trans s) ((s12.trans s3).free hR) e⟩
        refine ⟨_, rfl, _, rfl, _, rfl, _, rfl, r, l, p, day, Wd, t, rfl, L.same s12, hp, s2 _ _ hW, ht20, fun hn H3 s3 => ?_, fun x hx H3 R s3 hR hRl => ?_⟩
        · exact fin _ H3 s3 (by rw [hn]; rfl)
        · exact fin _ H3 s3 (by rw [hx]; exact ⟨R, rfl, hRl⟩)
/-! ### text -/
abbrev s_text : Stmt := top 55
theorem sc_text : FnScope ["law", "numbers", "part", "day"] ["law", "numbers"] (defScope s_text) := ⟨rfl, rfl, rfl, by decide +kernel, rfl, by decide +kernel, by decide +kernel⟩
inductive Sp_text (c : Cl) (vs : List V) (H : Hp) (Q : VK) : Prop
  | mk (r : Rg) (l : Law) (M : Addr) (p day : Nat) (h0 : vs = [.ref r.a, .ref M]) (h1 : LawAt c r H l) (h2 : H M = some (.lst (nsV [p, day]))) (h3 : Ret c r H (Si51.step l (.text p day)) Q) : Sp_text c vs H Q
def sp_text (c : Cl) : Sp := fun vs H Q _ => Sp_text c vs H Q
theorem step_text (l : Law) (p day : Nat) : Si51.step l (.text p day) = (l, match l.parts[p]? with
    | none => Si51.ok (-2)
    | some x => Si51.told l day p x.text) := rfl
theorem ok_text {f : Addr} {fd : FuncData} (F : Fun K "text" "text" s_text f fd) (T : Txt K mg c) (D_spelled_out : FnD P w K mg base "spelled_out" 6 ["law", "part", "day", "words"] (sp_spelled_out c)) (D_spelled_answer : FnD P w K mg base "spelled_answer" 2 ["longer"] sp_spelled_answer) :
    FnOk P w K mg base CX0 7 f fd ["law", "numbers"] (sp_text c) := by
  refine F.ok sc_text (fun vs H Q E h => ?_) (fun cdv A outer s H vs Q E hr h => ?_)
  · obtain ⟨r, l, M, p, day, rfl, _⟩ := h
    rfl
  · obtain ⟨r, l, M, p, day, rfl, L, hM, k⟩ := h
    have hpl : (r.ps.map V.ref).length = l.parts.length := by rw [List.length_map, L.pl]
    refine ⟨_, (pss_cons (ps_set (i := 2) sc_text.nd rfl (by first | exact Or.inl rfl | exact Or.inr rfl) (pe_ix ix_list (pv 1) pe_int (fun _ _ => rfl)))
      (pss_cons (ps_set (i := 3) sc_text.nd rfl (by first | exact Or.inl rfl | exact Or.inr rfl) (pe_ix ix_list (pv 1) pe_int (fun _ _ => rfl)))
      (pss_cons (ps_if (pt_cmp (pc_ge (pv 2) (pe_callB call_len_seq (by rfl) T.b_len PySem.boot_len (pa_cons (pe_fld (pv 0) rfl) pa_nil))))
      (pss_one (ps_ret (pe_lst (pa_cons (pe_gint rfl T.g_NOT_THERE) pa_nil))))
      pss_nil)
      (pss_one (ps_ret (pe_fn D_spelled_answer (hr.mono (by decide)) rfl (pa_cons (pe_fn D_spelled_out (hr.mono (by decide)) rfl (pa_cons (pv 0) (pa_cons (pv 2) (pa_cons (pv 3) (pa_cons (pe_fld (pe_ix ix_list (pe_fld (pv 0) rfl) (pv 2) (fun _ _ => rfl)) rfl) pa_nil))))) pa_nil))))))), ?_⟩
    try dsimp only [cx_K]
    refine ⟨_, rfl, M, _, _, _, rfl, rfl, SqL.of hM, at_nat (j := 0) rfl, ?_⟩
    refine ⟨_, rfl, M, _, _, _, rfl, rfl, SqL.of hM, at_nat (j := 1) rfl, ?_⟩
    refine ⟨_, rfl, _, rfl, r.a, c.L, r.dx, _, _, rfl, L.ins, T.clL, T.nL_parts, lF_parts, r.pa, _, rfl, .inl (SqL.of L.parts), _, _, rfl, rfl, _, rfl, ?_⟩
    refine ite2 (fun h => ?_) (fun h => ?_)
    · have h : ((r.ps.map V.ref).length : Int) ≤ (p : Int) := of_decide_eq_true h
      rw [hpl] at h
      exact k.one L (by rw [step_text, List.getElem?_eq_none (Int.ofNat_le.mp h)]) (Same.refl _)
    · have h : ¬ ((r.ps.map V.ref).length : Int) ≤ (p : Int) := fun z => h (decide_eq_true z)
      rw [hpl] at h
      have hp : p < l.parts.length := Nat.lt_of_not_le fun z => h (Int.ofNat_le.mpr z)
      have hx := List.getElem?_eq_getElem hp
      rw [step_text, hx] at k
      dsimp only at k
      rw [told_toldO] at k
      obtain ⟨q, dx, wd, e1, e2, e3, e4⟩ := L.partAt hx
      have fin : ∀ (v : V) (H3 : Hp), Same H H3 → CutAs H3 v (Si51.spelled l day p l.parts[p].text) → sp_spelled_answer [v] H3 Q E0 := fun v H3 s3 hv =>
        ⟨v, _, rfl, hv, fun H' R s hR e => k.read L rfl (xs := ansV (toldO (Si51.spelled l day p l.parts[p].text))) rfl (s3.trans s) (s3.free hR) e⟩
      refine ⟨_, rfl, _, rfl, _, rfl, _, rfl, r.a, c.L, r.dx, _, _, rfl, L.ins, T.clL, T.nL_parts, lF_parts, _, rfl, r.pa, _, _, _, rfl, rfl, SqL.of L.parts, at_nat e1, q, c.P, dx, _, _, rfl, e3, T.clP, T.nP_words, pF_words, ?_⟩
      refine ⟨r, l, p, day, wd, l.parts[p].text, rfl, L, hp, e4, L.good.text _ (List.getElem_mem hp), fun hn H3 s3 => ?_, fun x hx H3 R s3 hR hRl => ?_⟩
      · exact fin _ H3 s3 (by rw [hn]; rfl)
      · exact fin _ H3 s3 (by rw [hx]; exact ⟨R, rfl, hRl⟩)
/-! ### circles, unused, hidden -/
abbrev s_circles : Stmt := top 56
theorem sc_circles : FnScope ["law", "numbers"] ["law", "numbers"] (defScope s_circles) := ⟨rfl, rfl, rfl, by decide +kernel, rfl, by decide +kernel, by decide +kernel⟩
inductive Sp_day (c : Cl) (q : Nat → Si51.Call) (vs : List V) (H : Hp) (Q : VK) : Prop
  | mk (r : Rg) (l : Law) (M : Addr) (day : Nat) (h0 : vs = [.ref r.a, .ref M]) (h1 : LawAt c r H l) (h2 : H M = some (.lst (nsV [day]))) (h3 : Ret c r H (Si51.step l (q day)) Q) : Sp_day c q vs H Q
def sp_day (c : Cl) (q : Nat → Si51.Call) : Sp := fun vs H Q _ => Sp_day c q vs H Q
theorem circles_len (l : Law) (day : Nat) : (Si51.circles l day).length ≤ l.defs.length := by rw [circles_eq]; exact Nat.le_trans (List.length_filter_le _ _) force_len
theorem unused_len (l : Law) (day : Nat) : (Si51.unused l day).length ≤ l.defs.length := by rw [unused_eq]; exact Nat.le_trans (List.length_filter_le _ _) force_len
theorem hidden_len (l : Law) (day : Nat) : (Si51.hidden l day).length ≤ l.defs.length := by rw [hidden_eq]; exact Nat.le_trans (List.length_filter_le _ _) force_len
theorem ok_circles {f : Addr} {fd : FuncData} (F : Fun K "circles" "circles" s_circles f fd) (T : Txt K mg c) (D_counted : FnD P w K mg base "counted" 1 ["found"] sp_counted) (D_leading_into_circles : FnD P w K mg base "leading_into_circles" 6 ["law", "day"] (sp_some c Si51.circles)) :
    FnOk P w K mg base CX0 7 f fd ["law", "numbers"] (sp_day c .circles) := by
  refine F.ok sc_circles (fun vs H Q E h => ?_) (fun cdv A outer s H vs Q E hr h => ?_)
  · obtain ⟨r, l, M, day, rfl, _⟩ := h
    rfl
  · obtain ⟨r, l, M, day, rfl, L, hM, k⟩ := h
    refine ⟨_, (pss_one (ps_ret (pe_fn D_counted (hr.mono (by decide)) rfl (pa_cons (pe_fn D_leading_into_circles (hr.mono (by decide)) rfl (pa_cons (pv 0) (pa_cons (pe_ix ix_list (pv 1) pe_int (fun _ _ => rfl)) pa_nil))) pa_nil)))), ?_⟩
    try dsimp only [cx_K]
    refine ⟨_, rfl, _, rfl, M, _, _, _, rfl, rfl, SqL.of hM, at_nat (j := 0) rfl, r, l, day, rfl, L, fun H1 D s1 hD hDl => ?_⟩
    exact ⟨D, _, rfl, hDl, Nat.le_trans (circles_len l day) (Nat.le_trans L.good.defs (by decide)), fun H' R s hR e => k.read L rfl rfl (s1.trans s) (s1.free hR) e⟩
abbrev s_unused : Stmt := top 57
theorem sc_unused : FnScope ["law", "numbers"] ["law", "numbers"] (defScope s_unused) := ⟨rfl, rfl, rfl, by decide +kernel, rfl, by decide +kernel, by decide +kernel⟩
theorem ok_unused {f : Addr} {fd : FuncData} (F : Fun K "unused" "unused" s_unused f fd) (T : Txt K mg c) (D_counted : FnD P w K mg base "counted" 1 ["found"] sp_counted) (D_unused_on : FnD P w K mg base "unused_on" 5 ["law", "day"] (sp_some c Si51.unused)) :
    FnOk P w K mg base CX0 6 f fd ["law", "numbers"] (sp_day c .unused) := by
  refine F.ok sc_unused (fun vs H Q E h => ?_) (fun cdv A outer s H vs Q E hr h => ?_)
  · obtain ⟨r, l, M, day, rfl, _⟩ := h
    rfl
  · obtain ⟨r, l, M, day, rfl, L, hM, k⟩ := h
    refine ⟨_, (pss_one (ps_ret (pe_fn D_counted (hr.mono (by decide)) rfl (pa_cons (pe_fn D_unused_on (hr.mono (by decide)) rfl (pa_cons (pv 0) (pa_cons (pe_ix ix_list (pv 1) pe_int (fun _ _ => rfl)) pa_nil))) pa_nil)))), ?_⟩
    try dsimp only [cx_K]
    refine ⟨_, rfl, _, rfl, M, _, _, _, rfl, rfl, SqL.of hM, at_nat (j := 0) rfl, r, l, day, rfl, L, fun H1 D s1 hD hDl => ?_⟩
    exact ⟨D, _, rfl, hDl, Nat.le_trans (unused_len l day) (Nat.le_trans L.good.defs (by decide)), fun H' R s hR e => k.read L rfl rfl (s1.trans s) (s1.free hR) e⟩
abbrev s_hidden : Stmt := top 58
theorem sc_hidden : FnScope ["law", "numbers"] ["law", "numbers"] (defScope s_hidden) := ⟨rfl, rfl, rfl, by decide +kernel, rfl, by decide +kernel, by decide +kernel⟩
theorem ok_hidden {f : Addr} {fd : FuncData} (F : Fun K "hidden" "hidden" s_hidden f fd) (T : Txt K mg c) (D_counted : FnD P w K mg base "counted" 1 ["found"] sp_counted) (D_hidden_on : FnD P w K mg base "hidden_on" 4 ["law", "day"] (sp_some c Si51.hidden)) :
    FnOk P w K mg base CX0 5 f fd ["law", "numbers"] (sp_day c .hidden) := by
  refine F.ok sc_hidden (fun vs H Q E h => ?_) (fun cdv A outer s H vs Q E hr h => ?_)
  · obtain ⟨r, l, M, day, rfl, _⟩ := h
    rfl
  · obtain ⟨r, l, M, day, rfl, L, hM, k⟩ := h
    refine ⟨_, (pss_one (ps_ret (pe_fn D_counted (hr.mono (by decide)) rfl (pa_cons (pe_fn D_hidden_on (hr.mono (by decide)) rfl (pa_cons (pv 0) (pa_cons (pe_ix ix_list (pv 1) pe_int (fun _ _ => rfl)) pa_nil))) pa_nil)))), ?_⟩
    try dsimp only [cx_K]
    refine ⟨_, rfl, _, rfl, M, _, _, _, rfl, rfl, SqL.of hM, at_nat (j := 0) rfl, r, l, day, rfl, L, fun H1 D s1 hD hDl => ?_⟩
    exact ⟨D, _, rfl, hDl, Nat.le_trans (hidden_len l day) (Nat.le_trans L.good.defs (by decide)), fun H' R s hR e => k.read L rfl rfl (s1.trans s) (s1.free hR) e⟩
end
end Lw

end

section
set_option Elab.async false
set_option linter.all false
set_option maxRecDepth 100000
namespace Lw
open PySem PySem.Spec PyProof.Rows L2
open Si51 (Law)
theorem init_good : Good Si51.init where
  wf := fun i p u h1 h2 => by
    have : i = 0 := by
      have := (List.getElem?_eq_some_iff.mp h1).1
      have h3 : Si51.init.parts.length = 1 := rfl
      omega
    subst this
    cases h1
    cases h2
  one := by decide
  parts := by decide
  defs := by decide
  text := fun x hx => by
    have : x = ⟨none, []⟩ := by simpa [Si51.init] using hx
    subst this
    decide
  body := fun d hd => by cases hd
  part := fun d hd => by cases hd
  till := fun d hd => by cases hd
end Lw

end

section
set_option Elab.async false
set_option linter.all false
set_option maxRecDepth 100000
namespace Lw
open PySem PySem.Spec PyProof.Rows L2
open Si51 (Law)
section
variable {P : Program} {w : World} {K : PySem.W.Frag} {mg : Str → Option Value} {base : Heap} {c : Cl}
/-! ### the law's own beginning -/
abbrev s_Law_begin : Stmt := inClass (top 14) 1
theorem sc_Law_begin : FnScope ["self"] ["self"] (defScope s_Law_begin) := ⟨rfl, rfl, rfl, by decide +kernel, rfl, by decide +kernel, by decide +kernel⟩
inductive Sp_Law_begin (c : Cl) (vs : List V) (H : Hp) (Q : VK) : Prop
  | mk (p dx : Addr) (fs : List (Str × V)) (ban : List Addr) (h0 : vs = [.ref p]) (h1 : H p = some (.ins c.L dx fs)) (h2 : (fs = [] ∨ ∃ a b, fs = lF a b)) (h3 : (∀ b ∈ ban, H b ≠ none)) (h4 : ∀ (H' : Hp) (pa da x : Addr), LawAt c ⟨p, dx, pa, da, [x], [], ban⟩ H' Si51.init → (∀ b o, H b = some o → b ≠ p → H' b = some o) → H pa = none → H da = none → H x = none → Q .non H') : Sp_Law_begin c vs H Q
def sp_Law_begin (c : Cl) : Sp := fun vs H Q _ => Sp_Law_begin c vs H Q
theorem ok_Law_begin {f : Addr} {fd : FuncData} (F : Fun K "begin" "Law.begin" s_Law_begin f fd) (T : Txt K mg c) (D_Part : MkD P w K mg base "Part" c.P 1 ["self", "above", "words"] (sp_Part c)) : FnOk P w K mg base CX0 3 f fd ["self"] (sp_Law_begin c) := by
  refine F.ok sc_Law_begin (fun vs H Q E h => ?_) (fun cdv A outer s H vs Q E hr h => ?_)
  · obtain ⟨p, dx, fs, ban, rfl, _⟩ := h
    rfl
  · obtain ⟨p, dx, fs, ban, rfl, hp, hfs, hban, k⟩ := h
    have hf0 : fs.length < 1000 := by
      rcases hfs with rfl | ⟨a, b, rfl⟩
      · show 0 < 1000; decide
      · show 2 < 1000; decide
    have hf1 : ∀ v, (putF "parts" v fs).length < 1000 := fun v => by
      rcases hfs with rfl | ⟨a, b, rfl⟩
      · show 1 < 1000; decide
      · show 2 < 1000; decide
    have hf2 : ∀ a b, putF "definitions" (.ref b) (putF "parts" (.ref a) fs) = lF a b := fun a b => by
      rcases hfs with rfl | ⟨a', b', rfl⟩
      · rfl
      · rfl
    refine ⟨_, (pss_cons (ps_fld (pv 0) (pe_lst (pa_cons (pe_mk D_Part (hr.mono (by decide)) rfl (pa_cons pe_non (pa_cons (pe_lst pa_nil) pa_nil))) pa_nil)) rfl)
      (pss_one (ps_fld (pv 0) (pe_lst pa_nil) rfl))), ?_⟩
    try dsimp only [cx_K]
    refine ⟨Nat.zero_le _, fun Wd hWd => ?_⟩
    intro x xd hx hxd hne
    have s1 : Same H (upd H Wd (.lst [])) := Same.new hWd
    refine ⟨x, xd, Wd, none, rfl, upd_same, rfl, ?_⟩
    rw [upd_upd]
    have s2 : Same (upd H Wd (.lst [])) (upd (upd (upd H Wd (.lst [])) xd (.own x)) x (.ins c.P xd (pF none Wd))) := fun b o e => by
      rw [upd_ne (ne_of_none e hx), upd_ne (ne_of_none e hxd)]
      exact e
    refine ⟨(by show 1 ≤ sizeLine; decide), fun pa hpa => ?_⟩
    have s3 : Same (upd (upd (upd H Wd (.lst [])) xd (.own x)) x (.ins c.P xd (pF none Wd))) (upd (upd (upd (upd H Wd (.lst [])) xd (.own x)) x (.ins c.P xd (pF none Wd))) pa (.lst [.ref x])) := Same.new hpa
    have s123 := (s1.trans s2).trans s3
    refine ⟨_, rfl, p, c.L, dx, _, rfl, s123 _ _ hp, T.clL, T.nL_parts, hf0, ?_⟩
    -- definitions
    have hpx : p ≠ x := fun z => by rw [← z, s1 _ _ hp] at hx; cases hx
    have hppa : p ≠ pa := fun z => by rw [← z, (s1.trans s2) _ _ hp] at hpa; cases hpa
    have hpW : p ≠ Wd := fun z => by rw [z, hWd] at hp; cases hp
    refine ⟨Nat.zero_le _, fun da hda => ?_⟩
    have hpda : p ≠ da := fun z => by rw [← z, upd_same] at hda; cases hda
    have hda' : (upd (upd (upd (upd H Wd (.lst [])) xd (.own x)) x (.ins c.P xd (pF none Wd))) pa (.lst [.ref x])) da = none := by
      rw [upd_ne (Ne.symm hpda)] at hda
      exact hda
    refine ⟨_, rfl, p, c.L, dx, _, rfl, (by rw [upd_ne hpda, upd_same]), T.clL, T.nL_defs, hf1 _, ?_⟩
    -- the end
    rw [hf2]
    have dpa : pa ≠ da := fun z => by rw [← z, upd_same] at hda'; cases hda'
    have dx_ : x ≠ pa := fun z => by rw [← z, upd_same] at hpa; cases hpa
    have dxd : x ≠ da := fun z => by rw [← z, upd_ne dx_, upd_same] at hda'; cases hda'
    have hW2 : (upd (upd (upd H Wd (.lst [])) xd (.own x)) x (.ins c.P xd (pF none Wd))) Wd = some (.lst []) := s2 _ _ upd_same
    have dW : Wd ≠ pa := fun z => by rw [← z, hW2] at hpa; cases hpa
    have dWd : Wd ≠ da := fun z => by rw [← z, s3 _ _ hW2] at hda'; cases hda'
    have get : ∀ b o, (upd (upd (upd (upd H Wd (.lst [])) xd (.own x)) x (.ins c.P xd (pF none Wd))) pa (.lst [.ref x])) b = some o → b ≠ p →
        (upd (upd (upd (upd (upd (upd (upd H Wd (.lst [])) xd (.own x)) x (.ins c.P xd (pF none Wd))) pa (.lst [.ref x])) p (.ins c.L dx (putF "parts" (.ref pa) fs))) da (.lst [])) p (.ins c.L dx (lF pa da))) b = some o := fun b o e hb => by
      rw [upd_ne hb, upd_ne (ne_of_none e hda'), upd_ne hb]
      exact e
    refine k _ pa da x ?_ (fun b o e hb => get b o (s123 _ _ e) hb) ((s1.trans s2).free hpa) (s123.free hda') (s1.free hx)
    refine ⟨upd_same, get _ _ upd_same (Ne.symm hppa), (by rw [upd_ne (Ne.symm hpda), upd_same]; rfl), dpa, rfl, rfl, (by simp), List.nodup_nil, fun i q y h1 h2 => ?_, fun i q y h1 h2 => ?_, init_good, fun b hb z => ?_⟩
    · cases i with
      | succ i => simp at h1
      | zero =>
        cases h1
        cases h2
        exact ⟨xd, Wd, get _ _ (s3 _ _ upd_same) (Ne.symm hpx), get _ _ (s3 _ _ hW2) (Ne.symm hpW), dW, dWd, fun hb => hban Wd hb hWd⟩
    · simp at h1
    · by_cases e : b = p
      · rw [e, upd_same] at z
        cases z
      · cases q : H b with
        | none => exact hban b hb q
        | some o =>
          rw [get b o (s123 _ _ q) e] at z
          cases z
abbrev s_Law___init__ : Stmt := inClass (top 14) 0
theorem sc_Law : FnScope ["self"] ["self"] (defScope s_Law___init__) := ⟨rfl, rfl, rfl, by decide +kernel, rfl, by decide +kernel, by decide +kernel⟩
inductive Sp_Law (c : Cl) (vs : List V) (H : Hp) (Q : VK) : Prop
  | mk (p dx : Addr) (h0 : vs = [.ref p]) (h1 : H p = some (.ins c.L dx [])) (h2 : ∀ (H' : Hp) (r : Rg), r.a = p → LawAt c r H' Si51.init → (∀ b o, H b = some o → b ≠ p → H' b = some o) → (∀ b ∈ r.muts, b = p ∨ H b = none) → Q .non H') : Sp_Law c vs H Q
def sp_Law (c : Cl) : Sp := fun vs H Q _ => Sp_Law c vs H Q
theorem muts_new {H : Hp} {p dx pa da x : Addr} {ban : List Addr} (h1 : H pa = none) (h2 : H da = none) (h3 : H x = none) : ∀ b ∈ (⟨p, dx, pa, da, [x], [], ban⟩ : Rg).muts, b = p ∨ H b = none := fun b hb => by
  simp only [Rg.muts, List.mem_cons, List.mem_append] at hb
  rcases hb with z | z | z | z | z
  · exact .inl z
  · rw [z]; exact .inr h1
  · rw [z]; exact .inr h2
  · rcases z with z | z
    · rw [z]; exact .inr h3
    · cases z
  · cases z
theorem ok_Law {f : Addr} {fd : FuncData} (F : Fun K "__init__" "Law.__init__" s_Law___init__ f fd) (T : Txt K mg c) (D_Law_begin : MtD P w K mg base c.L "begin" 3 ["self"] (sp_Law_begin c)) : FnOk P w K mg base CX0 4 f fd ["self"] (sp_Law c) := by
  refine F.ok sc_Law (fun vs H Q E h => ?_) (fun cdv A outer s H vs Q E hr h => ?_)
  · obtain ⟨p, dx, rfl, _⟩ := h
    rfl
  · obtain ⟨p, dx, rfl, hp, k⟩ := h
    refine ⟨_, (pss_one (ps_expr (pe_mth0 T.clL D_Law_begin (hr.mono (by decide)) (pv 0)))), ?_⟩
    try dsimp only [cx_K]
    exact ⟨_, rfl, p, dx, [], rfl, hp, rfl, p, dx, [], [], rfl, hp, .inl rfl, fun b hb => (by cases hb), fun H' pa da x L kp h1 h2 h3 => k H' _ rfl L kp (muts_new h1 h2 h3)⟩
/-! ### begins -/
abbrev s_begins : Stmt := top 48
theorem sc_begins : FnScope ["law", "numbers"] ["law", "numbers"] (defScope s_begins) := ⟨rfl, rfl, rfl, by decide +kernel, rfl, by decide +kernel, by decide +kernel⟩
inductive Sp_begins (c : Cl) (vs : List V) (H : Hp) (Q : VK) : Prop
  | mk (r : Rg) (l : Law) (M : Addr) (h0 : vs = [.ref r.a, .ref M]) (h1 : LawAt c r H l) (h2 : Ret c r H (Si51.step l .begins) Q) : Sp_begins c vs H Q
def sp_begins (c : Cl) : Sp := fun vs H Q _ => Sp_begins c vs H Q
theorem ok_begins {f : Addr} {fd : FuncData} (F : Fun K "begins" "begins" s_begins f fd) (T : Txt K mg c) (D_Law_begin : MtD P w K mg base c.L "begin" 3 ["self"] (sp_Law_begin c)) : FnOk P w K mg base CX0 4 f fd ["law", "numbers"] (sp_begins c) := by
  refine F.ok sc_begins (fun vs H Q E h => ?_) (fun cdv A outer s H vs Q E hr h => ?_)
  · obtain ⟨r, l, M, rfl, _⟩ := h
    rfl
  · obtain ⟨r, l, M, rfl, L, k⟩ := h
    refine ⟨_, (pss_cons (ps_expr (pe_mth0 T.clL D_Law_begin (hr.mono (by decide)) (pv 0)))
      (pss_one (ps_ret (pe_lst (pa_cons pe_int pa_nil))))), ?_⟩
    try dsimp only [cx_K]
    refine ⟨_, rfl, r.a, r.dx, _, rfl, L.ins, rfl, r.a, r.dx, _, r.ban, rfl, L.ins, .inr ⟨_, _, rfl⟩, L.bans, fun H1 pa da x L1 kp h1 h2 h3 => ?_⟩
    refine ⟨(by show 1 ≤ sizeLine; decide), fun R hR => ?_⟩
    have hRa : R ≠ r.a := fun z => by rw [z, L1.ins] at hR; cases hR
    have hRn : H R = none := by
      cases q : H R with
      | none => rfl
      | some o => rw [kp R o q hRa] at hR; cases hR
    refine k _ _ R ⟨L1.same (Same.new hR), rfl, rfl, fun b o e hb => ?_, fun b hb => ?_⟩ hRn upd_same
    · rw [upd_ne (fun z => by rw [z, hRn] at e; cases e)]
      exact kp b o e fun z => hb (by rw [z]; simp [Rg.muts])
    · rcases muts_new (p := r.a) (dx := r.dx) (ban := r.ban) h1 h2 h3 b hb with z | z
      · exact .inl (by rw [z]; simp [Rg.muts])
      · exact .inr z
end
end Lw

end

section
set_option Elab.async false
set_option linter.all false
set_option maxRecDepth 100000
namespace Lw
open PySem PySem.Spec PyProof.Rows L2
open Si51 (Law)
/-! ### lists of whole numbers, as data -/
def datL (x : List Nat) : List PyData := x.map fun n : Nat => .int (n : Int)
theorem dp_all {K : PySem.W.Frag} {H : Hp} : ∀ (x : List Nat), DpAll K H (nsV x) (datL x)
  | [] => .nil
  | n :: x => .cons (.int _) (dp_all x)
theorem dat_lay : ∀ (x : List Nat), PyData.canLayAll0 (datL x) = true
  | [] => by unfold datL PyData.canLayAll0; rfl
  | n :: x => by
    show PyData.canLayAll0 (.int (n : Int) :: datL x) = true
    unfold PyData.canLayAll0
    rw [dat_lay x]
    unfold PyData.canLay0
    rfl
theorem dat_depth : ∀ (x : List Nat), PyData.depthAll (datL x) = 0
  | [] => by unfold datL PyData.depthAll; rfl
  | n :: x => by
    show PyData.depthAll (.int (n : Int) :: datL x) = 0
    unfold PyData.depthAll
    rw [dat_depth x]
    unfold PyData.depth
    rfl
theorem dat_shaped (x : List Nat) : SeqAt.shaped (.list (datL x)) = true := by
  unfold SeqAt.shaped
  rw [show PyData.canLay0 (.list (datL x)) = PyData.canLayAll0 (datL x) by unfold PyData.canLay0; rfl, dat_lay, show PyData.depth (.list (datL x)) = PyData.depthAll (datL x) + 1 by conv => lhs; unfold PyData.depth, dat_depth]
  rfl
theorem dat_eqvAll : ∀ (x y : List Nat), PyData.eqvAll (datL x) (datL y) = decide (x = y)
  | [], [] => by unfold datL PyData.eqvAll; rfl
  | [], n :: y => by
    show PyData.eqvAll [] (.int (n : Int) :: datL y) = _
    unfold PyData.eqvAll
    simp
  | n :: x, [] => by
    show PyData.eqvAll (.int (n : Int) :: datL x) [] = _
    unfold PyData.eqvAll
    simp
  | n :: x, m :: y => by
    show PyData.eqvAll (.int (n : Int) :: datL x) (.int (m : Int) :: datL y) = _
    unfold PyData.eqvAll
    rw [dat_eqvAll x y, show PyData.eqv (.int (n : Int)) (.int (m : Int)) = ((n : Int) == (m : Int)) by unfold PyData.eqv; rfl]
    rw [Bool.eq_iff_iff]
    simp
    intro _
    omega
theorem dat_eqv (x y : List Nat) : PyData.eqv (.list (datL x)) (.list (datL y)) = decide (x = y) := by
  rw [show PyData.eqv (.list (datL x)) (.list (datL y)) = PyData.eqvAll (datL x) (datL y) by conv => lhs; unfold PyData.eqv]
  exact dat_eqvAll x y
theorem upV_scal (a b : Option Nat) : scal (upV a) (upV b) = true := by cases a <;> cases b <;> rfl
theorem upV_dec (a b : Option Nat) : decide (upV a = upV b) = decide (a = b) := by
  cases a with
  | none =>
    cases b with
    | none => rfl
    | some m => rfl
  | some n =>
    cases b with
    | none => rfl
    | some m =>
      refine decide_eq_decide.mpr ⟨fun h => ?_, fun h => by rw [h]⟩
      have : V.int (n : Int) = V.int (m : Int) := h
      injection this with this
      exact congrArg some (by omega)
theorem any_rel {α β : Type} {f : α → Bool} {g : β → Bool} : ∀ {xs : List α} {ys : List β}, xs.length = ys.length → (∀ (i : Nat) x y, xs[i]? = some x → ys[i]? = some y → f x = g y) → xs.any f = ys.any g
  | [], [], _, _ => rfl
  | [], _ :: _, h, _ => by simp at h
  | _ :: _, [], h, _ => by simp at h
  | x :: xs, y :: ys, h, r => by
    rw [List.any_cons, List.any_cons, r 0 x y rfl rfl, any_rel (by simpa using h) fun i a b ha hb => r (i + 1) a b ha hb]
section
variable {P : Program} {w : World} {K : PySem.W.Frag} {mg : Str → Option Value} {base : Heap} {c : Cl}
/-! ### differs -/
theorem rng62 {n : Nat} (h : n ≤ 1000) : -(2 ^ 62) ≤ (n : Int) ∧ (n : Int) < 2 ^ 62 := by omega
abbrev s_differs : Stmt := top 59
theorem sc_differs : FnScope ["law", "numbers", "part", "other", "day", "words", "counting", "here", "there", "place"] ["law", "numbers"] (defScope s_differs) := ⟨rfl, rfl, rfl, by decide +kernel, rfl, by decide +kernel, by decide +kernel⟩
theorem blk_differs_1 : BlkOk ["law", "numbers", "part", "other", "day", "words", "counting", "here", "there", "place"] (defScope s_differs) (lcS (kidE (subE (stAt s_differs 9) 0) 1)) [("place", 9)] := ⟨rfl, by decide +kernel, by decide +kernel, by decide +kernel, by decide +kernel⟩
inductive Sp_differs (c : Cl) (vs : List V) (H : Hp) (Q : VK) : Prop
  | mk (r : Rg) (l : Law) (M : Addr) (p o day : Nat) (t : List Nat) (h0 : vs = [.ref r.a, .ref M]) (h1 : LawAt c r H l) (h2 : H M = some (.lst (nsV (p :: o :: day :: t)))) (h3 : Ret c r H (Si51.step l (.differs p o day t)) Q) : Sp_differs c vs H Q
def sp_differs (c : Cl) : Sp := fun vs H Q _ => Sp_differs c vs H Q
def dif (l : Law) (day p o : Nat) (t : List Nat) (i : Nat) : Bool := Si51.means l p (t.getD i 0) day != Si51.means l o (t.getD i 0) day
theorem step_differs (l : Law) (p o day : Nat) (t : List Nat) : Si51.step l (.differs p o day t) = (l, if (Si51.there l p && Si51.there l o) = false then Si51.ok (-2) else if Si51.wordsOk t = false then Si51.ok (-1) else Si51.listed (Si51.differs l day p o t)) := rfl
set_option maxHeartbeats 2000000 in
theorem ok_differs {f : Addr} {fd : FuncData} (F : Fun K "differs" "differs" s_differs f fd) (T : Txt K mg c) (D_wrong_words : FnD P w K mg base "wrong_words" 2 ["words"] sp_wrong_words) (D_counting_on : FnD P w K mg base "counting_on" 3 ["law", "day"] (sp_counting_on c))
    (D_definitions_at : FnD P w K mg base "definitions_at" 2 ["law", "counting", "part", "words"] (sp_definitions_at c)) (D_counted : FnD P w K mg base "counted" 1 ["found"] sp_counted) : FnOk P w K mg base CX0 4 f fd ["law", "numbers"] (sp_differs c) := by
  refine F.ok sc_differs (fun vs H Q E h => ?_) (fun cdv A outer s H vs Q E hr h => ?_)
  · obtain ⟨r, l, M, p, o, day, t, rfl, _⟩ := h
    rfl
  · obtain ⟨r, l, M, p, o, day, t, rfl, L, hM, k⟩ := h
    have hpl : (r.ps.map V.ref).length = l.parts.length := by rw [List.length_map, L.pl]
    refine ⟨_, (pss_cons (ps_set (i := 2) sc_differs.nd rfl (by first | exact Or.inl rfl | exact Or.inr rfl) (pe_ix ix_list (pv 1) pe_int (fun _ _ => rfl)))
      (pss_cons (ps_set (i := 3) sc_differs.nd rfl (by first | exact Or.inl rfl | exact Or.inr rfl) (pe_ix ix_list (pv 1) pe_int (fun _ _ => rfl)))
      (pss_cons (ps_set (i := 4) sc_differs.nd rfl (by first | exact Or.inl rfl | exact Or.inr rfl) (pe_ix ix_list (pv 1) pe_int (fun _ _ => rfl)))
      (pss_cons (ps_set (i := 5) sc_differs.nd rfl (by first | exact Or.inl rfl | exact Or.inr rfl) (pe_slice sl_list (pv 1) (po_some pe_int) po_none))
      (pss_cons (ps_if (PW.pt (pw_or (pt_cmp (pc_ge (pv 2) (pe_callB call_len_seq (by rfl) T.b_len PySem.boot_len (pa_cons (pe_fld (pv 0) rfl) pa_nil)))) (pw_or1 (pt_cmp (pc_ge (pv 3) (pe_callB call_len_seq (by rfl) T.b_len PySem.boot_len (pa_cons (pe_fld (pv 0) rfl) pa_nil)))))))
      (pss_one (ps_ret (pe_lst (pa_cons (pe_gint rfl T.g_NOT_THERE) pa_nil))))
      pss_nil)
      (pss_cons (ps_if (pt_val (pe_fn D_wrong_words (hr.mono (by decide)) rfl (pa_cons (pv 5) pa_nil)))
      (pss_one (ps_ret (pe_lst (pa_cons (pe_gint rfl T.g_WRONG) pa_nil))))
      pss_nil)
      (pss_cons (ps_set (i := 6) sc_differs.nd rfl (by first | exact Or.inl rfl | exact Or.inr rfl) (pe_fn D_counting_on (hr.mono (by decide)) rfl (pa_cons (pv 0) (pa_cons (pv 4) pa_nil))))
      (pss_cons (ps_set (i := 7) sc_differs.nd rfl (by first | exact Or.inl rfl | exact Or.inr rfl) (pe_fn D_definitions_at (hr.mono (by decide)) rfl (pa_cons (pv 0) (pa_cons (pv 6) (pa_cons (pv 2) (pa_cons (pv 5) pa_nil))))))
      (pss_cons (ps_set (i := 8) sc_differs.nd rfl (by first | exact Or.inl rfl | exact Or.inr rfl) (pe_fn D_definitions_at (hr.mono (by decide)) rfl (pa_cons (pv 0) (pa_cons (pv 6) (pa_cons (pv 3) (pa_cons (pv 5) pa_nil))))))
      (pss_one (ps_ret (pe_fn D_counted (hr.mono (by decide)) rfl (pa_cons (pe_lc (own := [("place", 9)]) rfl sc_differs.nd (pi_range1 (by rfl) T.b_range (pa_cons (pe_callB call_len_seq (by rfl) T.b_len PySem.boot_len (pa_cons (pv 5) pa_nil)) pa_nil)) blk_differs_1 (fun _ _ _ _ _ => by exact (pg_name (i := 9) sc_differs.nd rfl (by first | exact Or.inl rfl | exact Or.inr rfl))) (fun _ _ _ _ _ => by exact (pts_one (pt_cmp (pc_neV (pe_ixLK K (pv 7) (pv 9) (fun _ _ => rfl)) (pe_ixLK K (pv 8) (pv 9) (fun _ _ => rfl)))))) (fun _ _ _ _ _ => by exact (pv 9))) pa_nil))))))))))))), ?_⟩
    try dsimp only [cx_K]
    refine ⟨_, rfl, M, _, _, _, rfl, rfl, SqL.of hM, at_nat (j := 0) rfl, ?_⟩
    refine ⟨_, rfl, M, _, _, _, rfl, rfl, SqL.of hM, at_nat (j := 1) rfl, ?_⟩
    refine ⟨_, rfl, M, _, _, _, rfl, rfl, SqL.of hM, at_nat (j := 2) rfl, ?_⟩
    refine ⟨_, rfl, _, rfl, M, _, rfl, SqL.of hM, fun Wd hWd => ?_⟩
    have s1 : Same H (upd H Wd (.lst (cutV (nsV (p :: o :: day :: t)) (some 3) none))) := Same.new hWd
    have hW : (upd H Wd (.lst (cutV (nsV (p :: o :: day :: t)) (some 3) none))) Wd = some (.lst (nsV t)) := by
      rw [upd_same, show cutV (nsV (p :: o :: day :: t)) (some 3) none = (nsV (p :: o :: day :: t)).drop 3 from cutV_drop _ 3]
      rfl
    have L1 := L.same s1
    have no : ∀ a b : Nat, (l.parts.length ≤ a ∨ l.parts.length ≤ b) → (Si51.there l a && Si51.there l b) = false := fun a b z => by
      rw [there_iff, there_iff]
      rcases z with z | z
      · rw [decide_eq_false (Nat.not_lt_of_le z)]; rfl
      · rw [decide_eq_false (show ¬ b < l.parts.length from Nat.not_lt_of_le z), Bool.and_false]
    refine ⟨_, rfl, _, rfl, r.a, c.L, r.dx, _, _, rfl, L1.ins, T.clL, T.nL_parts, lF_parts, r.pa, _, rfl, .inl (SqL.of L1.parts), _, _, rfl, rfl, _, rfl, ?_⟩
    refine ite2 (fun h => ?_) (fun h => ?_)
    · have h : ((r.ps.map V.ref).length : Int) ≤ (p : Int) := of_decide_eq_true h
      rw [hpl] at h
      exact iteT (k.one L (by rw [step_differs, if_pos (no p o (.inl (Int.ofNat_le.mp h)))]) s1)
    · have h : ¬ ((r.ps.map V.ref).length : Int) ≤ (p : Int) := fun z => h (decide_eq_true z)
      rw [hpl] at h
      refine ⟨_, rfl, _, rfl, r.a, c.L, r.dx, _, _, rfl, L1.ins, T.clL, T.nL_parts, lF_parts, r.pa, _, rfl, .inl (SqL.of L1.parts), _, _, rfl, rfl, _, rfl, ?_⟩
      refine ite2 (fun h2 => ?_) (fun h2 => ?_)
      · have h2 : ((r.ps.map V.ref).length : Int) ≤ (o : Int) := of_decide_eq_true h2
        rw [hpl] at h2
        exact k.one L (by rw [step_differs, if_pos (no p o (.inr (Int.ofNat_le.mp h2)))]) s1
      · have h2 : ¬ ((r.ps.map V.ref).length : Int) ≤ (o : Int) := fun z => h2 (decide_eq_true z)
        rw [hpl] at h2
        have hp : p < l.parts.length := Nat.lt_of_not_le fun z => h (Int.ofNat_le.mpr z)
        have ho : o < l.parts.length := Nat.lt_of_not_le fun z => h2 (Int.ofNat_le.mpr z)
        have nth : ¬ (Si51.there l p && Si51.there l o) = false := by rw [there_iff, there_iff, decide_eq_true hp, decide_eq_true ho]; decide
        rw [step_differs, if_neg nth] at k
        refine ⟨_, rfl, Wd, t, rfl, hW, fun H2 s2 => ⟨_, rfl, ?_⟩⟩
        cases hok : Si51.wordsOk t with
        | false =>
          rw [if_pos hok] at k
          exact iteT (k.one L rfl (s1.trans s2))
        | true =>
          rw [if_neg (by rw [hok]; decide)] at k
          have ht20 : t.length ≤ 20 := by
            rw [wordsOk_eq, Bool.and_eq_true] at hok
            exact of_decide_eq_true hok.1
          refine iteF ?_
          have s12 := s1.trans s2
          refine ⟨_, rfl, _, rfl, r, l, day, rfl, L.same s12, fun H3 C s3 hCn hC => ?_⟩
          have s13 := s12.trans s3
          have hW3 := s3 _ _ (s2 _ _ hW)
          refine ⟨_, rfl, _, rfl, _, rfl, _, rfl, r, l, day, C, p, Wd, t, rfl, L.same s13, hC, hp, hW3, ht20, fun H4 B1 s4 hB1n hB1 => ?_⟩
          have s14 := s13.trans s4
          refine ⟨_, rfl, _, rfl, _, rfl, _, rfl, r, l, day, C, o, Wd, t, rfl, L.same s14, hC.same s4, ho, s4 _ _ hW3, ht20, fun H5 B2 s5 hB2n hB2 => ?_⟩
          have s15 := s14.trans s5
          have hW5 := s5 _ _ (s4 _ _ hW3)
          have hB15 := s5 _ _ hB1
          refine ⟨_, rfl, Wd, _, rfl, .inl (SqL.of hW5), ((nsV t).length : Int), rfl, (by rw [nsV_len]; exact (rng62 (Nat.le_trans ht20 (by decide))).1), (by rw [nsV_len]; exact (rng62 (Nat.le_trans ht20 (by decide))).2), ?_⟩
          have hn : ((nsV t).length : Int).toNat = t.length := by rw [nsV_len, Int.toNat_natCast]
          rw [hn]
          refine lc_walk (walk_range 0 t.length) (fun i => if dif l day p o t i = true then some (nV i) else none) (fun _ _ => trivial) ?_ ?_ ?_
          · exact Nat.le_of_lt (small1000 (Nat.le_trans ht20 (by decide)))
          · rintro i x H6 H6' hi sm ⟨rfl, hx⟩ Ny Nn h1 h2
            have hx : x = nV i := by rw [hx]; exact congrArg V.int (Int.zero_add _)
            subst hx
            have hti := List.getElem?_eq_getElem hi
            have g1 : ∀ q, (upsV (osOf l day q t))[i]? = some (upV (Si51.means l q t[i] day)) := fun q => by
              unfold upsV osOf
              rw [List.getElem?_map, List.getElem?_map, hti]
              rfl
            refine ⟨rfl, ?_⟩
            refine ⟨_, rfl, _, rfl, B1, _, _, _, rfl, rfl, SqL.of (sm _ _ hB15), at_nat (j := i) (g1 p), _, rfl, _, rfl, B2, _, _, _, rfl, rfl, SqL.of (sm _ _ hB2), at_nat (j := i) (g1 o), upV_scal _ _, _, rfl, ?_⟩
            rw [upV_dec]
            have eg : t.getD i 0 = t[i] := by rw [List.getD_eq_getElem?_getD, hti]; rfl
            have eb : (!decide (Si51.means l p t[i] day = Si51.means l o t[i] day)) = dif l day p o t i := by
              unfold dif
              rw [eg, bne, Bool.beq_eq_decide_eq]
            rw [eb]
            refine ite2 (fun h => ?_) (fun h => ?_)
            · exact ⟨_, rfl, h1 _ _ (Same.refl _) (by show (if dif l day p o t i = true then _ else _) = _; rw [if_pos h])⟩
            · exact h2 _ (Same.refl _) (by show (if dif l day p o t i = true then _ else _) = _; rw [if_neg h])
          · intro D H' s hD e
            have e2 : (List.range t.length).filterMap (fun i => if dif l day p o t i = true then some (nV i) else none) = nsV (Si51.differs l day p o t) := by
              rw [fm_filter]
              rfl
            rw [e2] at e
            refine ⟨D, _, rfl, e, ?_, fun H'' R s' hR e3 => k.read L rfl rfl ((s15.trans s).trans s') ((s15.trans s).free hR) e3⟩
            have := List.length_filter_le (dif l day p o t) (List.range t.length)
            rw [List.length_range] at this
            exact Nat.le_trans this (Nat.le_trans ht20 (by decide))
end
end Lw

end

section
set_option Elab.async false
set_option linter.all false
set_option maxRecDepth 100000
namespace Lw
open PySem PySem.Spec PyProof.Rows L2
open Si51 (Law)
/-- a text spelled out, cut, that stands apart from D -/
def CutD (D : Addr) (H : Hp) (v : V) : Option (List Nat) → Prop
  | none => v = .non
  | some x => ∃ R, v = .ref R ∧ R ≠ D ∧ H R = some (.lst (nsV (x.take 1001)))
theorem CutD.cut {D : Addr} {H : Hp} {v : V} {o : Option (List Nat)} (h : CutD D H v o) : CutAs H v o := by
  cases o with
  | none => exact h
  | some x =>
    obtain ⟨R, e, _, q⟩ := h
    exact ⟨R, e, q⟩
theorem CutAs.same {H H' : Hp} {v : V} {o : Option (List Nat)} (h : CutAs H v o) (s : Same H H') : CutAs H' v o := by
  cases o with
  | none => exact h
  | some x =>
    obtain ⟨R, e, q⟩ := h
    exact ⟨R, e, s _ _ q⟩
theorem CutD.keep {D : Addr} {H H' : Hp} {v : V} {o : Option (List Nat)} (h : CutD D H v o) (k : ∀ b u, H b = some u → b ≠ D → H' b = some u) : CutD D H' v o := by
  cases o with
  | none => exact h
  | some x =>
    obtain ⟨R, e, ne, q⟩ := h
    exact ⟨R, e, ne, k _ _ q ne⟩
theorem CutAs.non {H : Hp} {v : V} {o : Option (List Nat)} (h : CutAs H v o) : isNon v = o.isNone := by
  cases o with
  | none =>
    have h : v = .non := h
    subst h
    rfl
  | some x =>
    obtain ⟨R, rfl, _⟩ := h
    rfl
theorem longO_long1 (l : Law) (p : Nat) (t : List Nat) (d : Nat) : longO (Si51.spelled l d p t) = long1 l p t d := by
  unfold long1 longO
  cases Si51.spelled l d p t <;> rfl
section
variable {P : Program} {w : World} {K : PySem.W.Frag} {mg : Str → Option Value} {base : Heap} {c : Cl}
theorem len1 (n : Nat) : ((n : Int) - 1).toNat = n - 1 := by omega
abbrev s_changes : Stmt := top 60
theorem sc_changes : FnScope ["law", "numbers", "part", "words", "days", "longer", "day", "one", "at"] ["law", "numbers"] (defScope s_changes) := ⟨rfl, rfl, rfl, by decide +kernel, rfl, by decide +kernel, by decide +kernel⟩
theorem blk_changes_1 : BlkOk ["law", "numbers", "part", "words", "days", "longer", "day", "one", "at"] (defScope s_changes) (lcS (subE (stAt s_changes 5) 1)) [("day", 6)] := ⟨rfl, by decide +kernel, by decide +kernel, by decide +kernel, by decide +kernel⟩
theorem blk_changes_2 : BlkOk ["law", "numbers", "part", "words", "days", "longer", "day", "one", "at"] (defScope s_changes) (lcS (kidE (subE (stAt s_changes 6) 0) 1)) [("one", 7)] := ⟨rfl, by decide +kernel, by decide +kernel, by decide +kernel, by decide +kernel⟩
theorem blk_changes_3 : BlkOk ["law", "numbers", "part", "words", "days", "longer", "day", "one", "at"] (defScope s_changes) (lcS (kidE (subE (stAt s_changes 8) 0) 1)) [("at", 8)] := ⟨rfl, by decide +kernel, by decide +kernel, by decide +kernel, by decide +kernel⟩
inductive Sp_changes (c : Cl) (vs : List V) (H : Hp) (Q : VK) : Prop
  | mk (r : Rg) (l : Law) (M : Addr) (p : Nat) (t : List Nat) (h0 : vs = [.ref r.a, .ref M]) (h1 : LawAt c r H l) (h2 : H M = some (.lst (nsV (p :: t)))) (h3 : Ret c r H (Si51.step l (.changes p t)) Q) : Sp_changes c vs H Q
def sp_changes (c : Cl) : Sp := fun vs H Q _ => Sp_changes c vs H Q
set_option maxHeartbeats 4000000 in
theorem ok_changes {f : Addr} {fd : FuncData} (F : Fun K "changes" "changes" s_changes f fd) (T : Txt K mg c) (D_wrong_words : FnD P w K mg base "wrong_words" 2 ["words"] sp_wrong_words) (D_turning_days : FnD P w K mg base "turning_days" 1 ["law"] (sp_turning_days c))
    (D_spelled_out : FnD P w K mg base "spelled_out" 6 ["law", "part", "day", "words"] (sp_spelled_out c)) (D_too_long : FnD P w K mg base "too_long" 1 ["longer"] sp_too_long) (D_counted : FnD P w K mg base "counted" 1 ["found"] sp_counted) : FnOk P w K mg base CX0 7 f fd ["law", "numbers"] (sp_changes c) := by
  refine F.ok sc_changes (fun vs H Q E h => ?_) (fun cdv A outer s H vs Q E hr h => ?_)
  · obtain ⟨r, l, M, p, t, rfl, _⟩ := h
    rfl
  · obtain ⟨r, l, M, p, t, rfl, L, hM, k⟩ := h
    have hpl : (r.ps.map V.ref).length = l.parts.length := by rw [List.length_map, L.pl]
    have hu64 := hr.units
    refine ⟨_, (pss_cons (ps_set (i := 2) sc_changes.nd rfl (by first | exact Or.inl rfl | exact Or.inr rfl) (pe_ix ix_list (pv 1) pe_int (fun _ _ => rfl)))
      (pss_cons (ps_set (i := 3) sc_changes.nd rfl (by first | exact Or.inl rfl | exact Or.inr rfl) (pe_slice sl_list (pv 1) (po_some pe_int) po_none))
      (pss_cons (ps_if (pt_cmp (pc_ge (pv 2) (pe_callB call_len_seq (by rfl) T.b_len PySem.boot_len (pa_cons (pe_fld (pv 0) rfl) pa_nil))))
      (pss_one (ps_ret (pe_lst (pa_cons (pe_gint rfl T.g_NOT_THERE) pa_nil))))
      pss_nil)
      (pss_cons (ps_if (pt_val (pe_fn D_wrong_words (hr.mono (by decide)) rfl (pa_cons (pv 3) pa_nil)))
      (pss_one (ps_ret (pe_lst (pa_cons (pe_gint rfl T.g_WRONG) pa_nil))))
      pss_nil)
      (pss_cons (ps_set (i := 4) sc_changes.nd rfl (by first | exact Or.inl rfl | exact Or.inr rfl) (pe_fn D_turning_days (hr.mono (by decide)) rfl (pa_cons (pv 0) pa_nil)))
      (pss_cons (ps_set (i := 5) sc_changes.nd rfl (by first | exact Or.inl rfl | exact Or.inr rfl) (pe_lc (own := [("day", 6)]) rfl sc_changes.nd (pi_list (pv 4)) blk_changes_1 (fun _ _ _ _ _ => by exact (pg_name (i := 6) sc_changes.nd rfl (by first | exact Or.inl rfl | exact Or.inr rfl))) (fun _ _ _ _ _ => by exact pts_nil) (fun _ _ _ _ _ => by exact (pe_fn D_spelled_out (hr.mono (by decide)) rfl (pa_cons (pv 0) (pa_cons (pv 2) (pa_cons (pv 6) (pa_cons (pv 3) pa_nil))))))))
      (pss_cons (ps_if (pt_val (pe_callB (call_any rfl) (by rfl) T.b_any boot_any (pa_cons (pe_lc (own := [("one", 7)]) rfl sc_changes.nd (pi_list (pv 5)) blk_changes_2 (fun _ _ _ _ _ => by exact (pg_name (i := 7) sc_changes.nd rfl (by first | exact Or.inl rfl | exact Or.inr rfl))) (fun _ _ _ _ _ => by exact pts_nil) (fun _ _ _ _ _ => by exact (pe_fn D_too_long (hr.mono (by decide)) rfl (pa_cons (pv 7) pa_nil)))) pa_nil)))
      (pss_one (ps_ret (pe_lst (pa_cons (pe_gint rfl T.g_TOO_MUCH) pa_nil))))
      pss_nil)
      (pss_cons (ps_if (pt_cmp (pc_inN hu64 pe_non (pv 5)))
      (pss_one (ps_ret (pe_lst (pa_cons (pe_gint rfl T.g_IN_A_CIRCLE) pa_nil))))
      pss_nil)
      (pss_one (ps_ret (pe_fn D_counted (hr.mono (by decide)) rfl (pa_cons (pe_lc (own := [("at", 8)]) rfl sc_changes.nd (pi_range2 (by rfl) T.b_range (pa_cons pe_int (pa_cons (pe_callB call_len_seq (by rfl) T.b_len PySem.boot_len (pa_cons (pv 4) pa_nil)) pa_nil))) blk_changes_3 (fun _ _ _ _ _ => by exact (pg_name (i := 8) sc_changes.nd rfl (by first | exact Or.inl rfl | exact Or.inr rfl))) (fun _ _ _ _ _ => by exact (pts_one (pt_cmp (pc_neDK K hu64 (pe_ixLK K (pv 5) (pv 8) (fun _ _ => rfl)) (pe_ixLK K (pv 5) (pe_op op_sub (pv 8) pe_int) (fun _ _ => rfl)))))) (fun _ _ _ _ _ => by exact (pe_ixLK K (pv 4) (pv 8) (fun _ _ => rfl)))) pa_nil)))))))))))), ?_⟩
    try dsimp only [cx_K]
    refine ⟨_, rfl, M, _, _, _, rfl, rfl, SqL.of hM, at_nat (j := 0) rfl, ?_⟩
    refine ⟨_, rfl, _, rfl, M, _, rfl, SqL.of hM, fun Wd hWd => ?_⟩
    have s1 : Same H (upd H Wd (.lst (cutV (nsV (p :: t)) (some 1) none))) := Same.new hWd
    have hW : (upd H Wd (.lst (cutV (nsV (p :: t)) (some 1) none))) Wd = some (.lst (nsV t)) := by
      rw [upd_same, show cutV (nsV (p :: t)) (some 1) none = (nsV (p :: t)).drop 1 from cutV_drop _ 1]
      rfl
    have L1 := L.same s1
    refine ⟨_, rfl, _, rfl, r.a, c.L, r.dx, _, _, rfl, L1.ins, T.clL, T.nL_parts, lF_parts, r.pa, _, rfl, .inl (SqL.of L1.parts), _, _, rfl, rfl, _, rfl, ?_⟩
    refine ite2 (fun h => ?_) (fun h => ?_)
    · have h : ((r.ps.map V.ref).length : Int) ≤ (p : Int) := of_decide_eq_true h
      rw [hpl] at h
      exact k.one L (by rw [step_changes2, if_pos (by rw [there_iff]; exact decide_eq_false (Nat.not_lt_of_le (Int.ofNat_le.mp h)))]) s1
    · have h : ¬ ((r.ps.map V.ref).length : Int) ≤ (p : Int) := fun z => h (decide_eq_true z)
      rw [hpl] at h
      have hp : p < l.parts.length := Nat.lt_of_not_le fun z => h (Int.ofNat_le.mpr z)
      have nth : ¬ Si51.there l p = false := by rw [there_iff, decide_eq_true hp]; decide
      rw [step_changes2, if_neg nth] at k
      refine ⟨_, rfl, Wd, t, rfl, hW, fun H2 s2 => ⟨_, rfl, ?_⟩⟩
      cases hok : Si51.wordsOk t with
      | false =>
        rw [if_pos hok] at k
        exact iteT (k.one L rfl (s1.trans s2))
      | true =>
        rw [if_neg (by rw [hok]; decide)] at k
        have ht20 : t.length ≤ 20 := by
          rw [wordsOk_eq, Bool.and_eq_true] at hok
          exact of_decide_eq_true hok.1
        refine iteF ?_
        have s12 := s1.trans s2
        -- the days
        refine ⟨_, rfl, r, l, rfl, L.same s12, fun H3 Dd s3 hDn hDd h41 => ?_⟩
        have s13 := s12.trans s3
        have hW3 := s3 _ _ (s2 _ _ hW)
        have hdz : (nsV (turnD l)).length ≤ sizeLine := by
          rw [nsV_len]
          exact Nat.le_of_lt (small1000 (Nat.le_trans h41 (by decide)))
        -- longer
        refine ⟨_, rfl, Dd, rfl, ⟨_, SqL.of hDd⟩, ?_⟩
        refine lc_walkR (walk_list K Dd (nsV (turnD l))) (fun D i v H' => ∃ d, (turnD l)[i]? = some d ∧ CutD D H' v (Si51.spelled l d p t)) (fun D i v H4 H5 kp ⟨d, e1, e2⟩ => ⟨d, e1, e2.keep kp⟩) (fun H' s => SqL.of (s _ _ hDd)) hdz ?_ ?_
        · rintro D i x H4 H4' hi sm hDD ⟨rfl, hx⟩ Ny Nn h1
          obtain ⟨d, hd, rfl⟩ := nsV_get hx
          refine ⟨rfl, yes ?_⟩
          refine ⟨_, rfl, _, rfl, _, rfl, _, rfl, r, l, p, d, Wd, t, rfl, L.same (s13.trans sm), hp, sm _ _ hW3, ht20, fun hn H5 s5 => ?_, fun y hy H5 R s5 hR hRl => ?_⟩
          · exact h1 _ H5 s5 ⟨d, hd, by rw [hn]; rfl⟩
          · exact h1 _ H5 s5 ⟨d, hd, by rw [hy]; exact ⟨R, rfl, fun z => hDD (by rw [← z]; exact hR), hRl⟩⟩
        · intro Lg H5 acc s5 hLn hLg hal hrel
          rw [nsV_len] at hal
          have s15 := s13.trans s5
          have hDd5 := s5 _ _ hDd
          have hcut : ∀ (i : Nat) v d, acc[i]? = some v → (turnD l)[i]? = some d → CutAs H5 v (Si51.spelled l d p t) := fun i v d h1 h2 => by
            obtain ⟨d', e1, e2⟩ := hrel i v h1
            rw [h2] at e1
            cases e1
            exact e2.cut
          have haz : acc.length ≤ sizeLine := by
            rw [hal]
            exact Nat.le_of_lt (small1000 (Nat.le_trans h41 (by decide)))
          -- too long on some day
          dsimp only [gName]
          refine ⟨_, rfl, Lg, rfl, ⟨_, SqL.of hLg⟩, ?_⟩
          refine lc_walk (walk_list K Lg acc) (fun i => ((turnD l)[i]?).map fun d => V.bl (long1 l p t d)) (fun H' s => SqL.of (s _ _ hLg)) haz ?_ ?_
          · rintro i x H6 H6' hi sm ⟨rfl, hx⟩ Ny Nn h1 h2
            have hti := List.getElem?_eq_getElem (Nat.lt_of_lt_of_eq hi hal)
            refine ⟨rfl, yes ?_⟩
            refine ⟨_, rfl, x, _, rfl, (hcut i x _ hx hti).same sm, h1 _ _ (Same.refl _) ?_⟩
            rw [hti, longO_long1]
            rfl
          · intro B H6 s6 hBn e
            have e2 : (List.range acc.length).filterMap (fun i => ((turnD l)[i]?).map fun d => V.bl (long1 l p t d)) = ((turnD l).map (long1 l p t)).map V.bl := by
              rw [hal, List.map_map]
              exact range_fmM (turnD l) _ fun i x h => by rw [h]; rfl
            rw [e2] at e
            refine ⟨B, _, rfl, SqL.of e, _, rfl, ?_⟩
            have e3 : ((turnD l).map (long1 l p t)).any id = (turnD l).any (long1 l p t) := by
              rw [List.any_map]
              rfl
            rw [e3]
            have s16 := s15.trans s6
            refine ite2 (fun hlong => ?_) (fun hlong => ?_)
            · rw [if_pos hlong] at k
              exact k.one L rfl s16
            · rw [if_neg hlong] at k
              have hLg6 := s6 _ _ hLg
              have hcut6 : ∀ (i : Nat) v d, acc[i]? = some v → (turnD l)[i]? = some d → CutAs H6 v (Si51.spelled l d p t) := fun i v d h1 h2 => (hcut i v d h1 h2).same s6
              -- in a circle on some day
              refine ⟨_, rfl, rfl, Lg, acc, rfl, SqL.of hLg6, fun v hv => ?_, _, rfl, ?_⟩
              · obtain ⟨i, hi, e⟩ := List.getElem_of_mem hv
                have hvi : acc[i]? = some v := by rw [List.getElem?_eq_getElem hi, e]
                have hti := List.getElem?_eq_getElem (Nat.lt_of_lt_of_eq hi hal)
                have q := hcut6 i v _ hvi hti
                cases hsp : Si51.spelled l (turnD l)[i] p t with
                | none =>
                  rw [hsp] at q
                  exact .inl q
                | some y =>
                  rw [hsp] at q
                  obtain ⟨R, e1, e2⟩ := q
                  exact .inr ⟨R, _, e1, SqL.of e2⟩
              · have e4 : acc.any isNon = (turnD l).any (circ1 l p t) := any_rel hal fun i v d h1 h2 => (hcut6 i v d h1 h2).non
                rw [e4]
                refine ite2 (fun hcirc => ?_) (fun hcirc => ?_)
                · rw [if_pos hcirc] at k
                  exact k.one L rfl s16
                · rw [if_neg hcirc] at k
                  have hDd6 := s6 _ _ hDd5
                  have full : ∀ (i : Nat) v d, acc[i]? = some v → (turnD l)[i]? = some d → ∃ R y, v = .ref R ∧ H6 R = some (.lst (nsV y)) ∧ Si51.spelled l d p t = some y := fun i v d h1 h2 => by
                    have q := hcut6 i v d h1 h2
                    cases hsp : Si51.spelled l d p t with
                    | none => exact absurd (List.any_eq_true.mpr ⟨d, List.mem_of_getElem? h2, by unfold circ1; rw [hsp]; rfl⟩) hcirc
                    | some y =>
                      rw [hsp] at q
                      obtain ⟨R, e1, e2⟩ := q
                      have hy : ¬ 1000 < y.length := fun z => hlong (List.any_eq_true.mpr ⟨d, List.mem_of_getElem? h2, by unfold long1; rw [hsp]; exact decide_eq_true z⟩)
                      rw [List.take_of_length_le (Nat.le_succ_of_le (Nat.le_of_not_lt hy))] at e2
                      exact ⟨R, y, e1, e2, rfl⟩
                  refine ⟨_, rfl, Dd, _, rfl, .inl (SqL.of hDd6), 1, ((nsV (turnD l)).length : Int), rfl, ⟨by decide, by decide, by rw [nsV_len]; exact (rng62 (Nat.le_trans h41 (by decide))).1, by rw [nsV_len]; exact (rng62 (Nat.le_trans h41 (by decide))).2⟩, ?_⟩
                  have hn : (((nsV (turnD l)).length : Int) - 1).toNat = (turnD l).length - 1 := by rw [nsV_len]; exact len1 _
                  rw [hn]
                  refine lc_walk (walk_range 1 ((turnD l).length - 1)) (fun i => (chg l p t i).map nV) (fun _ _ => trivial) ?_ ?_ ?_
                  · exact Nat.le_of_lt (small1000 (Nat.le_trans (Nat.sub_le ..) (Nat.le_trans h41 (by decide))))
                  · rintro i x H7 H7' hi sm ⟨rfl, hx⟩ Ny Nn h1 h2
                    have hx : x = nV (i + 1) := by rw [hx]; exact congrArg V.int (Int.add_comm 1 _)
                    subst hx
                    have ha := List.getElem?_eq_getElem (Nat.lt_of_lt_of_le hi (Nat.sub_le ..))
                    have hb := List.getElem?_eq_getElem (Nat.add_lt_of_lt_sub hi)
                    have hva := List.getElem?_eq_getElem (show i < acc.length by rw [hal]; exact Nat.lt_of_lt_of_le hi (Nat.sub_le ..))
                    have hvb := List.getElem?_eq_getElem (show i + 1 < acc.length by rw [hal]; exact Nat.add_lt_of_lt_sub hi)
                    obtain ⟨Ra, ya, ea, hRa, hya⟩ := full i _ _ hva ha
                    obtain ⟨Rb, yb, eb, hRb, hyb⟩ := full (i + 1) _ _ hvb hb
                    rw [ea] at hva
                    rw [eb] at hvb
                    have hLg7 := sm _ _ hLg6
                    refine ⟨rfl, ?_⟩
                    refine ⟨_, rfl, _, rfl, Lg, _, _, _, rfl, rfl, SqL.of hLg7, at_nat (j := i + 1) hvb, _, rfl, _, rfl, _, _, rfl, rfl, Lg, _, _, _, rfl, rfl, SqL.of hLg7, (by rw [show (((i + 1 : Nat) : Int) - 1) = ((i : Nat) : Int) from Int.add_sub_cancel (i : Int) 1]; exact at_nat (j := i) hva),
                      .list (datL yb), .list (datL ya), .lst (SqL.of (sm _ _ hRb)) (dp_all yb), .lst (SqL.of (sm _ _ hRa)) (dp_all ya), dat_shaped yb, dat_shaped ya, _, rfl, ?_⟩
                    rw [dat_eqv]
                    have ec : chg l p t i = if (!decide (yb = ya)) = true then some (turnD l)[i + 1] else none := by
                      unfold chg
                      rw [ha, hb]
                      dsimp only
                      rw [hya, hyb]
                      by_cases z : yb = ya
                      · subst z; simp
                      · simp [z]
                    have hg : (nsV (turnD l))[i + 1]? = some (nV (turnD l)[i + 1]) := by
                      unfold nsV
                      rw [List.getElem?_map, hb]
                      rfl
                    refine ite2 (fun h => ?_) (fun h => ?_)
                    · refine ⟨_, rfl, _, rfl, Dd, _, _, _, rfl, rfl, SqL.of (sm _ _ hDd6), at_nat (j := i + 1) hg, h1 _ _ (Same.refl _) ?_⟩
                      rw [ec, if_pos h]
                      rfl
                    · exact h2 _ (Same.refl _) (by rw [ec, if_neg h]; rfl)
                  · intro D H7 s7 hD e5
                    have e6 : (List.range ((turnD l).length - 1)).filterMap (fun i => (chg l p t i).map nV) = nsV ((List.range ((turnD l).length - 1)).filterMap (chg l p t)) := by
                      unfold nsV
                      rw [List.map_filterMap]
                    rw [e6] at e5
                    refine ⟨D, _, rfl, e5, ?_, fun H'' R s' hR e7 => k.read L rfl rfl ((s16.trans s7).trans s') ((s16.trans s7).free hR) e7⟩
                    exact Nat.le_trans (len_fm _ _) (Nat.le_trans (Nat.sub_le ..) (Nat.le_trans h41 (by decide)))
end
end Lw

end

section
set_option Elab.async false
set_option linter.all false
set_option maxRecDepth 100000
namespace Lw
open PySem PySem.Spec PyProof.Rows L2
open Si51 (Law)
/-- the promise of the def that stands for the j-th call -/
inductive Sp_call (c : Cl) (j : Nat) (vs : List V) (H : Hp) (Q : VK) : Prop
  | mk (r : Rg) (l : Law) (M : Addr) (xs : List Nat) (q : Si51.Call) (h0 : vs = [.ref r.a, .ref M]) (h1 : LawAt c r H l) (h2 : H M = some (.lst (nsV xs))) (h3 : callN (j :: xs) = some q) (h4 : Ret c r H (Si51.step l q) Q) : Sp_call c j vs H Q
def sp_call (c : Cl) (j : Nat) : Sp := fun vs H Q _ => Sp_call c j vs H Q
/-- the tuple of the calls -/
def CallsOk (P : Program) (w : World) (K : PySem.W.Frag) (mg : Str → Option Value) (base : Heap) (c : Cl) (ct : Addr) (k : Nat) : Prop := ∃ fs : List Addr, fs.length = 13 ∧ (∀ H, SqT K H ct (fs.map V.ref)) ∧
  ∀ (j : Nat) (f : Addr), fs[j]? = some f → PySem.W.keepIn K (.ref f) = true ∧ ∃ fd ps, Binds K fd ps [] ∧ FnOk P w K mg base CX0 k f fd ps (sp_call c j)
section
variable {P : Program} {w : World} {K : PySem.W.Frag} {mg : Str → Option Value} {base : Heap} {c : Cl}
/-! ### answers -/
abbrev s_answers : Stmt := top 62
theorem sc_answers : FnScope ["calls", "law", "given", "at", "behind", "call", "answer"] ["calls"] (defScope s_answers) := ⟨rfl, rfl, rfl, by decide +kernel, rfl, by decide +kernel, by decide +kernel⟩
def castL (l : List Nat) : List Int := l.map fun n : Nat => (n : Int)
inductive Sp_answers (K : PySem.W.Frag) (vs : List V) (H : Hp) (Q : VK) : Prop
  | mk (a : Addr) (zs : List Nat) (h0 : vs = [.ref a]) (h1 : SqL K H a (nsV zs)) (h2 : zs.length ≤ 3000) (h3 : PySi51.answers_asked (castL zs) = true) (h4 : ∀ (H' : Hp) (p : Addr), H' p = some (.lst ((PySi51.answers (castL zs)).map V.int)) → Q (.ref p) H') : Sp_answers K vs H Q
def sp_answers (K : PySem.W.Frag) : Sp := fun vs H Q _ => Sp_answers K vs H Q
theorem cutV_mid (xs : List V) (a b : Nat) (h : a ≤ b) (hb : b ≤ xs.length) : cutV xs (some (a : Int)) (some (b : Int)) = (xs.drop a).take (b - a) := by
  unfold cutV
  show (xs.drop (if (a : Int) < 0 then ((a : Int) + (xs.length : Int)).toNat else min (a : Int).toNat xs.length)).take ((if (b : Int) < 0 then ((b : Int) + (xs.length : Int)).toNat else min (b : Int).toNat xs.length) - (if (a : Int) < 0 then ((a : Int) + (xs.length : Int)).toNat else min (a : Int).toNat xs.length)) = _
  rw [if_neg (by omega), if_neg (by omega), Int.toNat_natCast, Int.toNat_natCast, Nat.min_eq_left hb, Nat.min_eq_left (Nat.le_trans h hb)]
/-- what stands outside of a law may change -/
theorem LawAt.outside {r : Rg} {H H' : Hp} {l : Law} {G : Addr} (L : LawAt c r H l) (k : ∀ b o, H b = some o → b ≠ G → H' b = some o) (hn : H' G ≠ none) (hG : G ∉ r.muts) (hb : G ∈ r.ban) : LawAt c r H' l := by
  have hm : ∀ b ∈ r.muts, b ≠ G := fun b hb z => hG (z ▸ hb)
  refine ⟨k _ _ L.ins (hm _ (by simp [Rg.muts])), k _ _ L.parts (hm _ (by simp [Rg.muts])), k _ _ L.defs (hm _ (by simp [Rg.muts])), L.npd, L.pl, L.dl, L.nps, L.nds, fun i p x h1 h2 => ?_, fun i p x h1 h2 => ?_, L.good, fun b hbb z => ?_⟩
  · obtain ⟨dx, wd, e1, e2, e3⟩ := L.pat i p x h1 h2
    exact ⟨dx, wd, k _ _ e1 (hm _ (by simp [Rg.muts]; exact .inr (.inr (.inr (.inl (List.mem_of_getElem? h1)))))), k _ _ e2 (fun z => e3.2.2 (z ▸ hb)), e3⟩
  · obtain ⟨dx, wd, e1, e2, e3⟩ := L.dat i p x h1 h2
    exact ⟨dx, wd, k _ _ e1 (hm _ (by simp [Rg.muts]; exact .inr (.inr (.inr (.inr (List.mem_of_getElem? h1)))))), k _ _ e2 (fun z => e3.2.2 (z ▸ hb)), e3⟩
  · by_cases e : b = G
    · rw [e] at z; exact hn z
    · cases q : H b with
      | none => exact L.bans b hbb q
      | some o => rw [k b o q e] at z; cases z
/-- a thing that came behind a law -/
theorem LawAt.banned {r : Rg} {H H' : Hp} {l : Law} {G : Addr} (L : LawAt c r H l) (s : Same H H') (hG : H G = none) (hn : H' G ≠ none) : LawAt c { r with ban := [G] } H' l := by
  have L' := L.same s
  refine ⟨L'.ins, L'.parts, L'.defs, L'.npd, L'.pl, L'.dl, L'.nps, L'.nds, fun i p x h1 h2 => ?_, fun i p x h1 h2 => ?_, L'.good, fun b hb => ?_⟩
  · obtain ⟨dx, wd, e1, e2, e3, e4, _⟩ := L.pat i p x h1 h2
    exact ⟨dx, wd, s _ _ e1, s _ _ e2, e3, e4, fun z => by
      have z : wd = G := by simpa using z
      rw [z, hG] at e2
      cases e2⟩
  · obtain ⟨dx, wd, e1, e2, e3, e4, _⟩ := L.dat i p x h1 h2
    exact ⟨dx, wd, s _ _ e1, s _ _ e2, e3, e4, fun z => by
      have z : wd = G := by simpa using z
      rw [z, hG] at e2
      cases e2⟩
  · have : b = G := by simpa using hb
    rw [this]
    exact hn
theorem told_cons (a : List Int) (r : List (List Int)) : PyFlat.told (a :: r) = (a.length : Int) :: a ++ PyFlat.told r := by
  unfold PyFlat.told
  rw [List.flatMap_cons]
theorem an_len {z a x t : Nat} (h : a ≤ z) (e : z - a = x + (t + 1) + 1 + 1) : z = a + (x + t + 3) := by omega
theorem an_le {z a x t : Nat} (h : z = a + (x + t + 3)) : a + (x + 3) ≤ z := by omega
theorem an_cut {z a x t : Nat} (h : z = a + (x + t + 3)) : a + 2 + x ≤ z := by omega
theorem an_two {a n k m : Nat} (h : a + n + (k + 1) ≤ 1000100) (hm : m ≤ n) (hn : n ≤ 999999) : a + 1 + m ≤ 2000200 := by omega
theorem an_acc {a n k m : Nat} (h : a + n + (k + 1) ≤ 1000100) (hm : m + 1 ≤ n) : a + (m + 1 + 1) + (n - (m + 1)) + k ≤ 1000100 := by omega
theorem an_int (a x : Nat) : (a : Int) + 2 + (x : Int) + 1 = ((a + (x + 3) : Nat) : Int) := by omega
theorem an_mu {z a x t : Nat} (h : z = a + (x + t + 3)) : z - ((a : Int) + 2 + (x : Int) + 1).toNat < z - (a : Int).toNat := by
  rw [an_int, Int.toNat_natCast, Int.toNat_natCast]
  omega
/-- what holds at the head of the loop -/
inductive AnsW (c : Cl) (H : Hp) (a G : Addr) (zs : List Nat) (cs : List (List (List Int))) (σ : L2.St) (H' : Hp) : Prop
  | mk (at_ : Nat) (r : Rg) (l : Law) (acc : List Int) (f n : Nat) (rest : List (List (List Int))) (v4 v5 v6 : Option V)
    (e : σ = [some (.ref a), some (.ref r.a), some (.ref G), some (nV at_), v4, v5, v6]) (hat : at_ ≤ zs.length) (sm : Same H H') (hmu : ∀ b ∈ r.muts, H b = none) (L : LawAt c r H' l) (hG : H' G = some (.lst (acc.map V.int))) (hGm : G ∉ r.muts) (hGb : G ∈ r.ban)
    (hd : PyWide.calls f (castL (zs.drop at_)) = some rest) (ha : rest.all Si51Neutral.asked1 = true) (h60 : rest.length ≤ 60) (hn : n ≤ 999999) (hsh : Si51Neutral.short l n rest = true) (hacc : acc.length + n + rest.length ≤ 1000100)
    (ht : PyFlat.told (PyFlat.played Si51Neutral.step Si51Neutral.start cs) = acc ++ PyFlat.told (PyFlat.played Si51Neutral.step l rest)) : AnsW c H a G zs cs σ H'
theorem ok_answers {f ct : Addr} {fd : FuncData} (F : Fun K "answers" "answers" s_answers f fd) (T : Txt K mg c) (g_CALLS : mg "CALLS" = some (.ref ct)) (hC : CallsOk P w K mg base c ct 8) (D_Law : MkD P w K mg base "Law" c.L 4 ["self"] (sp_Law c)) : FnOk P w K mg base CX0 9 f fd ["calls"] (sp_answers K) := by
  obtain ⟨fs, hfl, hct, hfs⟩ := hC
  refine F.ok sc_answers (fun vs H Q E h => ?_) (fun cdv A outer s H vs Q E hr h => ?_)
  · obtain ⟨a, zs, rfl, _⟩ := h
    rfl
  · obtain ⟨a, zs, rfl, hS, hz, hask, k⟩ := h
    refine ⟨_, (pss_cons (ps_set (i := 1) sc_answers.nd rfl (by first | exact Or.inl rfl | exact Or.inr rfl) (pe_mk0 D_Law (hr.mono (by decide)) rfl))
      (pss_cons (ps_set (i := 2) sc_answers.nd rfl (by first | exact Or.inl rfl | exact Or.inr rfl) (pe_lst pa_nil))
      (pss_cons (ps_set (i := 3) sc_answers.nd rfl (by first | exact Or.inl rfl | exact Or.inr rfl) pe_int)
      (pss_cons (ps_while PassesOwn.never (pt_cmp (pc_lt (pv 3) (pe_callB call_len_seq (by rfl) T.b_len PySem.boot_len (pa_cons (pv 0) pa_nil))))
      (pss_cons (ps_set (i := 4) sc_answers.nd rfl (by first | exact Or.inl rfl | exact Or.inr rfl) (pe_op op_add (pe_op op_add (pv 3) pe_int) (pe_ix ix_list (pv 0) (pe_op op_add (pv 3) pe_int) (fun _ _ => rfl))))
        (pss_cons (ps_set (i := 5) sc_answers.nd rfl (by first | exact Or.inl rfl | exact Or.inr rfl) (pe_ix ix_tup (pe_gref rfl g_CALLS) (pe_ix ix_list (pv 0) (pv 3) (fun _ _ => rfl)) (fun _ _ => rfl)))
        (pss_cons (ps_set (i := 6) sc_answers.nd rfl (by first | exact Or.inl rfl | exact Or.inr rfl) (pe_callV (i := 5) rfl (Or.inl rfl) (pa_cons (pv 1) (pa_cons (pe_slice sl_list (pv 0) (po_some (pe_op op_add (pv 3) pe_int)) (po_some (pv 4))) pa_nil))))
        (pss_cons (ps_expr (pe_bm PySem.F.plainAttrs_list PySem.F.slot_list_append PySem.F.type_list_append mt_append (pv 2) (pa_cons (pe_callB call_len_seq (by rfl) T.b_len PySem.boot_len (pa_cons (pv 6) pa_nil)) pa_nil)))
        (pss_cons (ps_expr (pe_bm PySem.F.plainAttrs_list PySem.F.slot_list_extend PySem.F.type_list_extend mt_extend (pv 2) (pa_cons (pv 6) pa_nil)))
        (pss_one (ps_set (i := 3) sc_answers.nd rfl (by first | exact Or.inl rfl | exact Or.inr rfl) (pe_op op_add (pv 4) pe_int)))))))))
      (pss_one (ps_ret (pv 2))))))), ?_⟩
    try dsimp only [cx_K]
    -- what is asked
    unfold PySi51.answers_asked at hask
    unfold PySi51.answers at k
    cases hcs : PySi51.calls (castL zs) with
    | none => rw [hcs] at hask; cases hask
    | some cs =>
    rw [hcs] at hask
    have k : ∀ (H' : Hp) (p : Addr), H' p = some (.lst ((PyFlat.told (PyFlat.played Si51Neutral.step Si51Neutral.start cs)).map V.int)) → Q (.ref p) H' := fun H' p h => k H' p (by rw [hcs]; exact h)
    have hask : (PyFlat.atMost 60 cs && Si51Neutral.asked cs) = true := hask
    rw [Bool.and_eq_true] at hask
    obtain ⟨h60, hask⟩ := hask
    have h60 : cs.length ≤ 60 := of_decide_eq_true h60
    unfold Si51Neutral.asked at hask
    rw [Bool.and_eq_true, Bool.and_eq_true, Bool.and_eq_true] at hask
    obtain ⟨hall, _, _, hshort⟩ := hask
    -- the law
    intro x dx hx hdx hne
    have s0 : Same H (upd (upd H dx (.own x)) x (.ins c.L dx [])) := fun b o e => by
      rw [upd_ne (ne_of_none e hx), upd_ne (ne_of_none e hdx)]
      exact e
    refine ⟨x, dx, rfl, upd_same, fun H1 r hra L hkeep hmut => ⟨rfl, ?_⟩⟩
    have s1 : Same H H1 := fun b o e => hkeep b o (s0 b o e) (ne_of_none e hx)
    have hm1 : ∀ b ∈ r.muts, H b = none := fun b hb => by
      rcases hmut b hb with z | z
      · rw [z]; exact hx
      · exact s0.free z
    refine ⟨Nat.zero_le _, fun G hG => ?_⟩
    have s2 : Same H1 (upd H1 G (.lst [])) := Same.new hG
    have hmG : ∀ (r : Rg) (H1 : Hp) (l : Law), LawAt c r H1 l → ∀ b ∈ r.muts, H1 b ≠ none := fun r H1 l L q hq => by
      simp only [Rg.muts, List.mem_cons, List.mem_append] at hq
      rcases hq with z | z | z | z | z
      · rw [z, L.ins]; intro y; cases y
      · rw [z, L.parts]; intro y; cases y
      · rw [z, L.defs]; intro y; cases y
      · obtain ⟨i, hi, e⟩ := List.getElem_of_mem z
        obtain ⟨_, _, f, _⟩ := L.pat i _ _ (List.getElem?_eq_getElem hi) (List.getElem?_eq_getElem (show i < l.parts.length by rw [← L.pl]; exact hi))
        rw [← e, f]; intro y; cases y
      · obtain ⟨i, hi, e⟩ := List.getElem_of_mem z
        obtain ⟨_, _, f, _⟩ := L.dat i _ _ (List.getElem?_eq_getElem hi) (List.getElem?_eq_getElem (show i < l.defs.length by rw [← L.dl]; exact hi))
        rw [← e, f]; intro y; cases y
    dsimp only [gName]
    refine while_by (fun σ H' => AnsW c H a G zs cs σ H')
      (fun (σ : L2.St) (_ : Hp) => match σ[3]? with
        | some (some (V.int q)) => zs.length - q.toNat
        | _ => 0)
      ⟨0, { r with ban := [G] }, Si51.init, [], _, 999999, cs, none, none, none, by rw [hra]; rfl, Nat.zero_le _, s1.trans s2, hm1, L.banned s2 hG (by rw [upd_same]; intro z; cases z), upd_same, fun hb => hmG r H1 _ L G hb hG, by simp, hcs, hall, h60, Nat.le_refl _, hshort, Nat.le_trans (Nat.add_le_add_left h60 _) (by decide), rfl⟩ ?_ ?_
    · rintro σ H3 ⟨at_, r, l, acc, f, n, rest, v4, v5, v6, rfl, hat, sm, hmu, L, hG3, hGm, hGb, hdec, hra, hr60, hn, hsh, hacc, htold⟩
      have hS3 := sm.seq hS
      refine ⟨_, rfl, _, rfl, a, _, rfl, .inl hS3, _, _, rfl, rfl, _, rfl, ?_⟩
      rcases decN hdec hra with ⟨e1, e2⟩ | ⟨f', j, xs, t, cs', q, e1, e2, e3, e4, e5⟩
      · -- the end
        subst e2
        have hge : zs.length ≤ at_ := List.drop_eq_nil_iff.mp e1
        refine ite2 (fun h => ?_) (fun h => ?_)
        · have h : (at_ : Int) < ((nsV zs).length : Int) := of_decide_eq_true h
          rw [nsV_len] at h
          exact absurd (Int.ofNat_lt.mp h) (Nat.not_lt_of_le hge)
        · refine ⟨_, rfl, k H3 G ?_⟩
          rw [htold]
          show H3 G = some (.lst ((acc ++ []).map V.int))
          rw [List.append_nil]
          exact hG3
      · subst e2
        have hlen : zs.length = at_ + (xs.length + t.length + 3) := by
          have := congrArg List.length e1
          rw [List.length_drop] at this
          simp only [List.length_cons, List.length_append] at this
          exact an_len hat this
        have hj12 := callN_lt e4
        have g0 : (nsV zs)[at_]? = some (nV j) := by
          unfold nsV
          rw [List.getElem?_map]
          have : zs[at_]? = some j := by
            rw [show at_ = at_ + 0 from rfl, ← List.getElem?_drop, e1]
            rfl
          rw [this]
          rfl
        have g1 : (nsV zs)[at_ + 1]? = some (nV xs.length) := by
          unfold nsV
          rw [List.getElem?_map]
          have : zs[at_ + 1]? = some xs.length := by
            rw [← List.getElem?_drop, e1]
            rfl
          rw [this]
          rfl
        refine ite2 (fun h => ?_) (fun h => ?_)
        · obtain ⟨fj, hfj⟩ : ∃ fj, fs[j]? = some fj := ⟨_, List.getElem?_eq_getElem (by rw [hfl]; exact Nat.lt_succ_of_le hj12)⟩
          obtain ⟨hkp, fd, ps, hb, FO⟩ := hfs j fj hfj
          -- behind
          refine ⟨_, rfl, _, _, rfl, rfl, _, rfl, _, rfl, _, _, rfl, rfl, a, _, _, _, rfl, rfl, hS3, at_nat (j := at_ + 1) g1, _, _, rfl, rfl, ?_⟩
          -- call
          refine ⟨_, rfl, _, rfl, a, _, _, _, rfl, rfl, hS3, at_nat (j := at_) g0, ct, _, _, _, rfl, rfl, hct _, at_nat (j := j) (v := .ref fj) (by rw [List.getElem?_map, hfj]; rfl), ?_⟩
          -- answer
          refine ⟨fj, rfl, hkp, _, rfl, _, rfl, _, rfl, _, _, rfl, rfl, _, rfl, _, rfl, _, rfl, a, _, rfl, hS3, fun M hM => ?_⟩
          have sM : Same H3 (upd H3 M (.lst (cutV (nsV zs) (some ((at_ : Int) + 2)) (some ((at_ : Int) + 2 + (xs.length : Int)))))) := Same.new hM
          have hMx : (upd H3 M (.lst (cutV (nsV zs) (some ((at_ : Int) + 2)) (some ((at_ : Int) + 2 + (xs.length : Int)))))) M = some (.lst (nsV xs)) := by
            rw [upd_same]
            refine congrArg (fun q => some (HO.lst q)) ?_
            have h1 : cutV (nsV zs) (some ((at_ : Int) + 2)) (some ((at_ : Int) + 2 + (xs.length : Int))) = ((nsV zs).drop (at_ + 2)).take (at_ + 2 + xs.length - (at_ + 2)) := by
              exact cutV_mid (nsV zs) (at_ + 2) (at_ + 2 + xs.length) (Nat.le_add_right _ _) (by rw [nsV_len]; exact an_cut hlen)
            rw [h1]
            unfold nsV
            rw [← List.map_drop, ← List.map_take, ← List.drop_drop, e1]
            refine congrArg (List.map nV) ?_
            show (xs ++ 0 :: t).take (at_ + 2 + xs.length - (at_ + 2)) = xs
            rw [Nat.add_sub_cancel_left]
            simp
          refine ⟨8, fd, ps, _, FO, hr, hb, r, l, M, xs, q, rfl, L.same sM, hMx, e4, ?_⟩
          intro H5 r' R St hR hRl
          have hse := step_eq (s := l) e4
          generalize hst : Si51.step l q = st at St hRl hse
          obtain ⟨l', an⟩ := st
          have s4 := sm.trans sM
          have s5 : Same H H5 := fun b o e => St.keep b o (s4 b o e) fun hb => by rw [hmu b hb] at e; cases e
          have hG4 := sM _ _ hG3
          have hG5 := St.keep _ _ hG4 hGm
          have hRG : R ≠ G := fun z => by rw [z, hG4] at hR; cases hR
          have hmu' : ∀ b ∈ r'.muts, H b = none := fun b hb => by
            rcases St.mu b hb with z | z
            · exact hmu b z
            · exact s4.free z
          have hGm' : G ∉ r'.muts := fun hb => by
            rcases St.mu G hb with z | z
            · exact hGm z
            · rw [hG4] at z; cases z
          have hGH : H G = none := by
            cases z : H G with
            | none => rfl
            | some o =>
              rw [s1 _ _ z] at hG
              cases hG
          -- the lengths
          unfold Si51Neutral.short at hsh
          rw [hse] at hsh
          have hsh : (decide ((an.v :: an.l).length ≤ n) && Si51Neutral.short l' (n - (an.v :: an.l).length) cs') = true := hsh
          rw [Bool.and_eq_true] at hsh
          have hle : (an.v :: an.l).length ≤ n := of_decide_eq_true hsh.1
          have hal : (ansV an).length = (an.v :: an.l).length := by
            show (V.int an.v :: an.l.map V.int).length = _
            simp
          have hrl : ([List.map (fun n : Nat => (n : Int)) (j :: xs)] :: cs').length = cs'.length + 1 := rfl
          rw [hrl] at hacc hr60
          -- given.append(len(answer))
          refine ⟨_, rfl, .inl ⟨rfl, _, SqL.of hG5⟩, _, rfl, R, _, rfl, .inl (SqL.of hRl), G, _, _, rfl, rfl, hG5, ?_, ?_⟩
          · rw [List.length_map]
            exact Nat.lt_of_le_of_lt (Nat.le_trans (Nat.le_trans (Nat.le_add_right _ _) (Nat.le_add_right _ _)) hacc) (by decide)
          -- given.extend(answer)
          refine ⟨_, rfl, .inl ⟨rfl, _, SqL.of upd_same⟩, _, rfl, G, R, _, _, rfl, rfl, upd_same, (by rw [upd_ne hRG]; exact hRl), ?_, ?_⟩
          · rw [List.length_append, List.length_map, hal]
            exact Nat.le_of_lt (Nat.lt_of_le_of_lt (an_two hacc hle hn) (by decide))
          -- at = behind + 1
          refine ⟨_, rfl, _, _, rfl, rfl, ?_⟩
          rw [upd_upd]
          have s6 : Same H (upd H5 G (.lst (acc.map V.int ++ [V.int ((ansV an).length : Int)] ++ ansV an))) := s5.upd hGH
          have L6 : LawAt c r' (upd H5 G (.lst (acc.map V.int ++ [V.int ((ansV an).length : Int)] ++ ansV an))) l' := by
            refine LawAt.outside St.at_ (fun b o e hb => ?_) (by rw [upd_same]; intro z; cases z) hGm' (by rw [St.ban]; exact hGb)
            rw [upd_ne hb]
            exact e
          refine ⟨⟨at_ + (xs.length + 3), r', l', acc ++ (((an.v :: an.l).length : Int) :: (an.v :: an.l)), f', n - (an.v :: an.l).length, cs', some (V.int ((at_ : Int) + 2 + (xs.length : Int))), some (.ref fj), some (.ref R), ?_, an_le hlen, s6, hmu', L6, ?_, hGm', by rw [St.ban]; exact hGb, ?_, e5, Nat.le_of_succ_le hr60, Nat.le_trans (Nat.sub_le ..) hn, hsh.2, ?_, ?_⟩, ?_⟩
          · rw [St.a]
            show [some (V.ref a), some (V.ref r.a), some (V.ref G), some (V.int ((at_ : Int) + 2 + (xs.length : Int) + 1)), _, _, _] = _
            rw [show V.int ((at_ : Int) + 2 + (xs.length : Int) + 1) = nV (at_ + (xs.length + 3)) from congrArg V.int (an_int at_ xs.length)]
          · rw [upd_same]
            refine congrArg (fun q => some (HO.lst q)) ?_
            rw [List.map_append, hal]
            simp [ansV]
          · rw [← List.drop_drop, e1]
            have : (j :: xs.length :: (xs ++ 0 :: t)).drop (xs.length + 3) = t := by
              show (xs ++ 0 :: t).drop (xs.length + 1) = t
              rw [← List.drop_drop]
              simp
            rw [this]
            exact e3
          · rw [List.length_append]
            simp only [List.length_cons] at hle ⊢
            exact an_acc hacc hle
          · rw [htold]
            show acc ++ PyFlat.told (_ :: PyFlat.played Si51Neutral.step _ cs') = _
            rw [hse, told_cons, List.append_assoc]
          · exact an_mu hlen
        · have h : ¬ (at_ : Int) < ((nsV zs).length : Int) := fun z => h (decide_eq_true z)
          rw [nsV_len] at h
          exact absurd (Int.ofNat_lt.mpr (Nat.lt_of_lt_of_le (Nat.lt_add_of_pos_right (Nat.zero_lt_succ _)) (an_le hlen))) h
    · intro σ H5 Q1 Q2 hQ h
      obtain ⟨v, e, v2, e2, p, ys, e3, e4, i, j, e5, e6, b, e7, h⟩ := h
      exact ⟨v, e, v2, e2, p, ys, e3, e4, i, j, e5, e6, b, e7, hQ _ _ h⟩
end
end Lw

end

section
set_option Elab.async false
set_option linter.all false
set_option maxRecDepth 100000
namespace Lw
open PySem PySem.Spec PyProof.Rows L2
open Si51 (Law)
theorem thirteen {p : Nat → Addr → Prop} {a0 a1 a2 a3 a4 a5 a6 a7 a8 a9 a10 a11 a12 : Addr} (h0 : p 0 a0) (h1 : p 1 a1) (h2 : p 2 a2) (h3 : p 3 a3) (h4 : p 4 a4) (h5 : p 5 a5) (h6 : p 6 a6) (h7 : p 7 a7) (h8 : p 8 a8) (h9 : p 9 a9) (h10 : p 10 a10) (h11 : p 11 a11) (h12 : p 12 a12) :
    ∀ (j : Nat) (f : Addr), ([a0, a1, a2, a3, a4, a5, a6, a7, a8, a9, a10, a11, a12] : List Addr)[j]? = some f → p j f := by
  have step : ∀ {k : Nat} {a : Addr} {l : List Addr}, p k a → (∀ (j : Nat) (f : Addr), l[j]? = some f → p (j + (k + 1)) f) → ∀ (j : Nat) (f : Addr), (a :: l)[j]? = some f → p (j + k) f := by
    intro k a l h ih j f hj
    cases j with
    | zero =>
      cases hj
      rw [Nat.zero_add]
      exact h
    | succ j =>
      have q := ih j f hj
      rw [show j + 1 + k = j + (k + 1) by omega]
      exact q
  have all := step (k := 0) h0 (step h1 (step h2 (step h3 (step h4 (step h5 (step h6 (step h7 (step h8 (step h9 (step h10 (step h11 (step h12 (l := []) fun j f hj => by simp at hj))))))))))))
  exact all
/-! ### a call's numbers, by its own number -/
theorem callN_0 {xs : List Nat} {q : Si51.Call} (h : callN (0 :: xs) = some q) : xs = [] ∧ q = .begins := by
  match xs, h with
  | [], h => exact ⟨rfl, (Option.some.inj h).symm⟩
  | _ :: _, h => cases h
theorem ite30 {t : List Nat} {a q : Si51.Call} (h : (if t.length ≤ 30 then some a else none) = some q) : t.length ≤ 30 ∧ q = a := by
  split at h
  · rename_i hl
    exact ⟨hl, (Option.some.inj h).symm⟩
  · cases h
theorem callN_1 {xs : List Nat} {q : Si51.Call} (h : callN (1 :: xs) = some q) : ∃ u t, xs = u :: t ∧ t.length ≤ 30 ∧ q = .part u t := by
  match xs, h with
  | [], h => cases h
  | u :: t, h => exact ⟨u, t, rfl, ite30 h⟩
theorem callN_2 {xs : List Nat} {q : Si51.Call} (h : callN (2 :: xs) = some q) : ∃ p w a b t, xs = p :: w :: a :: b :: t ∧ t.length ≤ 30 ∧ q = .define p w a b t := by
  match xs, h with
  | [], h => cases h
  | [_], h => cases h
  | [_, _], h => cases h
  | [_, _, _], h => cases h
  | p :: w :: a :: b :: t, h => exact ⟨p, w, a, b, t, rfl, ite30 h⟩
theorem callN_3 {xs : List Nat} {q : Si51.Call} (h : callN (3 :: xs) = some q) : ∃ d t, xs = [d, t] ∧ q = .ends d t := by
  match xs, h with
  | [], h => cases h
  | [_], h => cases h
  | [d, t], h => exact ⟨d, t, rfl, (Option.some.inj h).symm⟩
  | _ :: _ :: _ :: _, h => cases h
theorem callN_4 {xs : List Nat} {q : Si51.Call} (h : callN (4 :: xs) = some q) : ∃ a b, xs = [a, b] ∧ q = .rename a b := by
  match xs, h with
  | [], h => cases h
  | [_], h => cases h
  | [d, t], h => exact ⟨d, t, rfl, (Option.some.inj h).symm⟩
  | _ :: _ :: _ :: _, h => cases h
theorem callN_5 {xs : List Nat} {q : Si51.Call} (h : callN (5 :: xs) = some q) : ∃ p w t, xs = [p, w, t] ∧ q = .means p w t := by
  match xs, h with
  | [], h => cases h
  | [_], h => cases h
  | [_, _], h => cases h
  | [p, w, t], h => exact ⟨p, w, t, rfl, (Option.some.inj h).symm⟩
  | _ :: _ :: _ :: _ :: _, h => cases h
theorem callN_6 {xs : List Nat} {q : Si51.Call} (h : callN (6 :: xs) = some q) : ∃ p d t, xs = p :: d :: t ∧ t.length ≤ 30 ∧ q = .spell p d t := by
  match xs, h with
  | [], h => cases h
  | [_], h => cases h
  | p :: d :: t, h => exact ⟨p, d, t, rfl, ite30 h⟩
theorem callN_7 {xs : List Nat} {q : Si51.Call} (h : callN (7 :: xs) = some q) : ∃ p d, xs = [p, d] ∧ q = .text p d := by
  match xs, h with
  | [], h => cases h
  | [_], h => cases h
  | [d, t], h => exact ⟨d, t, rfl, (Option.some.inj h).symm⟩
  | _ :: _ :: _ :: _, h => cases h
theorem callN_8 {xs : List Nat} {q : Si51.Call} (h : callN (8 :: xs) = some q) : ∃ d, xs = [d] ∧ q = .circles d := by
  match xs, h with
  | [], h => cases h
  | [d], h => exact ⟨d, rfl, (Option.some.inj h).symm⟩
  | _ :: _ :: _, h => cases h
theorem callN_9 {xs : List Nat} {q : Si51.Call} (h : callN (9 :: xs) = some q) : ∃ d, xs = [d] ∧ q = .unused d := by
  match xs, h with
  | [], h => cases h
  | [d], h => exact ⟨d, rfl, (Option.some.inj h).symm⟩
  | _ :: _ :: _, h => cases h
theorem callN_10 {xs : List Nat} {q : Si51.Call} (h : callN (10 :: xs) = some q) : ∃ d, xs = [d] ∧ q = .hidden d := by
  match xs, h with
  | [], h => cases h
  | [d], h => exact ⟨d, rfl, (Option.some.inj h).symm⟩
  | _ :: _ :: _, h => cases h
theorem callN_11 {xs : List Nat} {q : Si51.Call} (h : callN (11 :: xs) = some q) : ∃ p r d t, xs = p :: r :: d :: t ∧ t.length ≤ 30 ∧ q = .differs p r d t := by
  match xs, h with
  | [], h => cases h
  | [_], h => cases h
  | [_, _], h => cases h
  | p :: r :: d :: t, h => exact ⟨p, r, d, t, rfl, ite30 h⟩
theorem callN_12 {xs : List Nat} {q : Si51.Call} (h : callN (12 :: xs) = some q) : ∃ p t, xs = p :: t ∧ t.length ≤ 30 ∧ q = .changes p t := by
  match xs, h with
  | [], h => cases h
  | p :: t, h => exact ⟨p, t, rfl, ite30 h⟩
section
variable {P : Program} {w : World} {K : PySem.W.Frag} {mg : Str → Option Value} {base : Heap} {c : Cl} {k : Nat} {f : Addr} {fd : FuncData} {ps : List Str}
theorem call_begins (F : FnOk P w K mg base CX0 k f fd ps (sp_begins c)) : FnOk P w K mg base CX0 k f fd ps (sp_call c 0) := F.imp fun vs H Q E h => by
  obtain ⟨r, l, M, xs, q, h1, h2, h3, h4, h5⟩ := h
  obtain ⟨rfl, rfl⟩ := callN_0 h4
  exact ⟨r, l, M, h1, h2, h5⟩
theorem call_text (F : FnOk P w K mg base CX0 k f fd ps (sp_text c)) : FnOk P w K mg base CX0 k f fd ps (sp_call c 7) := F.imp fun vs H Q E h => by
  obtain ⟨r, l, M, xs, q, h1, h2, h3, h4, h5⟩ := h
  obtain ⟨p, d, rfl, rfl⟩ := callN_7 h4
  exact ⟨r, l, M, p, d, h1, h2, h3, h5⟩
theorem call_circles (F : FnOk P w K mg base CX0 k f fd ps (sp_day c .circles)) : FnOk P w K mg base CX0 k f fd ps (sp_call c 8) := F.imp fun vs H Q E h => by
  obtain ⟨r, l, M, xs, q, h1, h2, h3, h4, h5⟩ := h
  obtain ⟨d, rfl, rfl⟩ := callN_8 h4
  exact ⟨r, l, M, d, h1, h2, h3, h5⟩
theorem call_unused (F : FnOk P w K mg base CX0 k f fd ps (sp_day c .unused)) : FnOk P w K mg base CX0 k f fd ps (sp_call c 9) := F.imp fun vs H Q E h => by
  obtain ⟨r, l, M, xs, q, h1, h2, h3, h4, h5⟩ := h
  obtain ⟨d, rfl, rfl⟩ := callN_9 h4
  exact ⟨r, l, M, d, h1, h2, h3, h5⟩
theorem call_hidden (F : FnOk P w K mg base CX0 k f fd ps (sp_day c .hidden)) : FnOk P w K mg base CX0 k f fd ps (sp_call c 10) := F.imp fun vs H Q E h => by
  obtain ⟨r, l, M, xs, q, h1, h2, h3, h4, h5⟩ := h
  obtain ⟨d, rfl, rfl⟩ := callN_10 h4
  exact ⟨r, l, M, d, h1, h2, h3, h5⟩
theorem call_differs (F : FnOk P w K mg base CX0 k f fd ps (sp_differs c)) : FnOk P w K mg base CX0 k f fd ps (sp_call c 11) := F.imp fun vs H Q E h => by
  obtain ⟨r, l, M, xs, q, h1, h2, h3, h4, h5⟩ := h
  obtain ⟨p, o, d, t, rfl, _, rfl⟩ := callN_11 h4
  exact ⟨r, l, M, p, o, d, t, h1, h2, h3, h5⟩
theorem call_changes (F : FnOk P w K mg base CX0 k f fd ps (sp_changes c)) : FnOk P w K mg base CX0 k f fd ps (sp_call c 12) := F.imp fun vs H Q E h => by
  obtain ⟨r, l, M, xs, q, h1, h2, h3, h4, h5⟩ := h
  obtain ⟨p, t, rfl, _, rfl⟩ := callN_12 h4
  exact ⟨r, l, M, p, t, h1, h2, h3, h5⟩
theorem call_add_part (F : FnOk P w K mg base CX0 k f fd ps (sp_add_part c)) : FnOk P w K mg base CX0 k f fd ps (sp_call c 1) := F.imp fun vs H Q E h => by
  obtain ⟨r, l, M, xs, q, h1, h2, h3, h4, h5⟩ := h
  obtain ⟨u, t, rfl, _, rfl⟩ := callN_1 h4
  exact ⟨r, l, M, u, t, h1, h2, h3, h5⟩
theorem call_define (F : FnOk P w K mg base CX0 k f fd ps (sp_define c)) : FnOk P w K mg base CX0 k f fd ps (sp_call c 2) := F.imp fun vs H Q E h => by
  obtain ⟨r, l, M, xs, q, h1, h2, h3, h4, h5⟩ := h
  obtain ⟨p, wd, a, b, t, rfl, _, rfl⟩ := callN_2 h4
  exact ⟨r, l, M, p, wd, a, b, t, h1, h2, h3, h5⟩
theorem call_ends (F : FnOk P w K mg base CX0 k f fd ps (sp_ends c)) : FnOk P w K mg base CX0 k f fd ps (sp_call c 3) := F.imp fun vs H Q E h => by
  obtain ⟨r, l, M, xs, q, h1, h2, h3, h4, h5⟩ := h
  obtain ⟨d, t, rfl, rfl⟩ := callN_3 h4
  exact ⟨r, l, M, d, t, h1, h2, h3, h5⟩
theorem call_rename (F : FnOk P w K mg base CX0 k f fd ps (sp_rename c)) : FnOk P w K mg base CX0 k f fd ps (sp_call c 4) := F.imp fun vs H Q E h => by
  obtain ⟨r, l, M, xs, q, h1, h2, h3, h4, h5⟩ := h
  obtain ⟨a, b, rfl, rfl⟩ := callN_4 h4
  exact ⟨r, l, M, a, b, h1, h2, h3, h5⟩
theorem call_means (F : FnOk P w K mg base CX0 k f fd ps (sp_means c)) : FnOk P w K mg base CX0 k f fd ps (sp_call c 5) := F.imp fun vs H Q E h => by
  obtain ⟨r, l, M, xs, q, h1, h2, h3, h4, h5⟩ := h
  obtain ⟨p, n, t, rfl, rfl⟩ := callN_5 h4
  exact ⟨r, l, M, p, n, t, h1, h2, h3, h5⟩
theorem call_spell (F : FnOk P w K mg base CX0 k f fd ps (sp_spell c)) : FnOk P w K mg base CX0 k f fd ps (sp_call c 6) := F.imp fun vs H Q E h => by
  obtain ⟨r, l, M, xs, q, h1, h2, h3, h4, h5⟩ := h
  obtain ⟨p, d, t, rfl, _, rfl⟩ := callN_6 h4
  exact ⟨r, l, M, p, d, t, h1, h2, h3, h5⟩
end
end Lw

end

set_option Elab.async false
set_option linter.all false
set_option maxRecDepth 100000
namespace Lw
open PySem PySem.Spec PyProof.Rows L2
open Si51 (Law)
/-! ### the request -/
open PySem.W (Codec WData)
theorem castL_map (ns : List Int) (h : ∀ x ∈ ns, 0 ≤ x) : castL (ns.map Int.toNat) = ns := cast_toNat ns h
theorem nsV_ints (ns : List Int) (h : ∀ x ∈ ns, 0 ≤ x) : nsV (ns.map Int.toNat) = ns.map V.int := by
  unfold nsV
  rw [List.map_map]
  refine List.map_congr_left fun x hx => ?_
  show V.int ((x.toNat : Nat) : Int) = V.int x
  rw [Int.toNat_of_nonneg (h x hx)]
theorem request {K : PySem.W.Frag} {H : Hp} {xs : List V} {a : Codec.denoteAll PySem.Challenge.rw_lawwords_s01_answers.args} (hwi : Codec.withinAll PySem.Challenge.rw_lawwords_s01_answers.args a = true) (hask : Codec.app PySem.Challenge.rw_lawwords_s01_answers.args PySem.Challenge.rw_lawwords_s01_answers.asked a = true)
    (hx : DwAll K H xs (Codec.encAll PySem.Challenge.rw_lawwords_s01_answers.args a)) : sp_answers K xs H (fun v H' => Dw K H' v (PySem.Challenge.rw_lawwords_s01_answers.ret.enc (Codec.app PySem.Challenge.rw_lawwords_s01_answers.args PySem.Challenge.rw_lawwords_s01_answers.f a))) fun _ _ _ => False := by
  cases hx with
  | cons h1 h2 =>
    cases h2
    cases h1 with
    | lst hs ha =>
      have e := L2.ints_dw a.1 _ ha
      subst e
      have q : ((Codec.inLen 0 3000 a.1 && a.1.all (Codec.inInt 0 4294967295)) && true) = true := hwi
      rw [Bool.and_eq_true, Bool.and_eq_true] at q
      have hz : ∀ x ∈ a.1, 0 ≤ x := fun x hx => (Codec.inInt_iff.mp (List.all_eq_true.mp q.1.2 x hx)).1
      refine ⟨_, a.1.map Int.toNat, rfl, by rw [nsV_ints _ hz]; exact hs, by rw [List.length_map]; exact (Codec.inNat_iff.mp q.1.1).2, by rw [castL_map _ hz]; exact hask, fun H' p hp => ?_⟩
      rw [castL_map _ hz] at hp
      exact .lst (L2.SqL.of hp) (L2.dw_ints _)
set_option maxHeartbeats 4000000 in
theorem all_mk {P : Program} {w : World} {K : PySem.W.Frag} {h : Heap} {mg : Str → Option Value} {fa ct CLaw CPart CDefinition f_in_force f_numbers_in_force f_counting_on f_definition_at f_definitions_at f_definitions_in_body f_is_hidden f_hidden_on f_turning_days f_all_spelled f_put_together f_links_of_bodies f_spelled_bodies f_spelled_out f_definitions_in_texts f_needed_on f_unused_on f_leading_into_circles f_wrong_word f_wrong_words f_wrong_end f_wrong_days f_renamed f_stands_somewhere f_Part f_Definition f_add_part f_define f_ends f_rename f_means f_too_long f_counted f_spelled_answer f_spell f_text f_circles f_unused f_hidden f_Law_begin f_Law f_begins f_differs f_changes f_answers : Addr} (X : K.In h) (G : h.Ns mainGlobals mg) (hfa : mg "answers" = some (.ref fa))
    {od_in_force an_in_force : Option Addr} {sl_in_force : Array (Option Value)} {oc_in_force kV_in_force dc_in_force pm_in_force cd_in_force ct_in_force : Value}
    {od_numbers_in_force an_numbers_in_force : Option Addr} {sl_numbers_in_force : Array (Option Value)} {oc_numbers_in_force kV_numbers_in_force dc_numbers_in_force pm_numbers_in_force cd_numbers_in_force ct_numbers_in_force : Value}
    {od_counting_on an_counting_on : Option Addr} {sl_counting_on : Array (Option Value)} {oc_counting_on kV_counting_on dc_counting_on pm_counting_on cd_counting_on ct_counting_on : Value}
    {od_definition_at an_definition_at : Option Addr} {sl_definition_at : Array (Option Value)} {oc_definition_at kV_definition_at dc_definition_at pm_definition_at cd_definition_at ct_definition_at : Value}
    {od_definitions_at an_definitions_at : Option Addr} {sl_definitions_at : Array (Option Value)} {oc_definitions_at kV_definitions_at dc_definitions_at pm_definitions_at cd_definitions_at ct_definitions_at : Value}
    {od_definitions_in_body an_definitions_in_body : Option Addr} {sl_definitions_in_body : Array (Option Value)} {oc_definitions_in_body kV_definitions_in_body dc_definitions_in_body pm_definitions_in_body cd_definitions_in_body ct_definitions_in_body : Value}
    {od_is_hidden an_is_hidden : Option Addr} {sl_is_hidden : Array (Option Value)} {oc_is_hidden kV_is_hidden dc_is_hidden pm_is_hidden cd_is_hidden ct_is_hidden : Value}
    {od_hidden_on an_hidden_on : Option Addr} {sl_hidden_on : Array (Option Value)} {oc_hidden_on kV_hidden_on dc_hidden_on pm_hidden_on cd_hidden_on ct_hidden_on : Value}
    {od_turning_days an_turning_days : Option Addr} {sl_turning_days : Array (Option Value)} {oc_turning_days kV_turning_days dc_turning_days pm_turning_days cd_turning_days ct_turning_days : Value}
    {od_all_spelled an_all_spelled : Option Addr} {sl_all_spelled : Array (Option Value)} {oc_all_spelled kV_all_spelled dc_all_spelled pm_all_spelled cd_all_spelled ct_all_spelled : Value}
    {od_put_together an_put_together : Option Addr} {sl_put_together : Array (Option Value)} {oc_put_together kV_put_together dc_put_together pm_put_together cd_put_together ct_put_together : Value}
    {od_links_of_bodies an_links_of_bodies : Option Addr} {sl_links_of_bodies : Array (Option Value)} {oc_links_of_bodies kV_links_of_bodies dc_links_of_bodies pm_links_of_bodies cd_links_of_bodies ct_links_of_bodies : Value}
    {od_spelled_bodies an_spelled_bodies : Option Addr} {sl_spelled_bodies : Array (Option Value)} {oc_spelled_bodies kV_spelled_bodies dc_spelled_bodies pm_spelled_bodies cd_spelled_bodies ct_spelled_bodies : Value}
    {od_spelled_out an_spelled_out : Option Addr} {sl_spelled_out : Array (Option Value)} {oc_spelled_out kV_spelled_out dc_spelled_out pm_spelled_out cd_spelled_out ct_spelled_out : Value}
    {od_definitions_in_texts an_definitions_in_texts : Option Addr} {sl_definitions_in_texts : Array (Option Value)} {oc_definitions_in_texts kV_definitions_in_texts dc_definitions_in_texts pm_definitions_in_texts cd_definitions_in_texts ct_definitions_in_texts : Value}
    {od_needed_on an_needed_on : Option Addr} {sl_needed_on : Array (Option Value)} {oc_needed_on kV_needed_on dc_needed_on pm_needed_on cd_needed_on ct_needed_on : Value}
    {od_unused_on an_unused_on : Option Addr} {sl_unused_on : Array (Option Value)} {oc_unused_on kV_unused_on dc_unused_on pm_unused_on cd_unused_on ct_unused_on : Value}
    {od_leading_into_circles an_leading_into_circles : Option Addr} {sl_leading_into_circles : Array (Option Value)} {oc_leading_into_circles kV_leading_into_circles dc_leading_into_circles pm_leading_into_circles cd_leading_into_circles ct_leading_into_circles : Value}
    {od_wrong_word an_wrong_word : Option Addr} {sl_wrong_word : Array (Option Value)} {oc_wrong_word kV_wrong_word dc_wrong_word pm_wrong_word cd_wrong_word ct_wrong_word : Value}
    {od_wrong_words an_wrong_words : Option Addr} {sl_wrong_words : Array (Option Value)} {oc_wrong_words kV_wrong_words dc_wrong_words pm_wrong_words cd_wrong_words ct_wrong_words : Value}
    {od_wrong_end an_wrong_end : Option Addr} {sl_wrong_end : Array (Option Value)} {oc_wrong_end kV_wrong_end dc_wrong_end pm_wrong_end cd_wrong_end ct_wrong_end : Value}
    {od_wrong_days an_wrong_days : Option Addr} {sl_wrong_days : Array (Option Value)} {oc_wrong_days kV_wrong_days dc_wrong_days pm_wrong_days cd_wrong_days ct_wrong_days : Value}
    {od_renamed an_renamed : Option Addr} {sl_renamed : Array (Option Value)} {oc_renamed kV_renamed dc_renamed pm_renamed cd_renamed ct_renamed : Value}
    {od_stands_somewhere an_stands_somewhere : Option Addr} {sl_stands_somewhere : Array (Option Value)} {oc_stands_somewhere kV_stands_somewhere dc_stands_somewhere pm_stands_somewhere cd_stands_somewhere ct_stands_somewhere : Value}
    {od_Part an_Part : Option Addr} {sl_Part : Array (Option Value)} {oc_Part kV_Part dc_Part pm_Part cd_Part ct_Part : Value}
    {od_Definition an_Definition : Option Addr} {sl_Definition : Array (Option Value)} {oc_Definition kV_Definition dc_Definition pm_Definition cd_Definition ct_Definition : Value}
    {od_add_part an_add_part : Option Addr} {sl_add_part : Array (Option Value)} {oc_add_part kV_add_part dc_add_part pm_add_part cd_add_part ct_add_part : Value}
    {od_define an_define : Option Addr} {sl_define : Array (Option Value)} {oc_define kV_define dc_define pm_define cd_define ct_define : Value}
    {od_ends an_ends : Option Addr} {sl_ends : Array (Option Value)} {oc_ends kV_ends dc_ends pm_ends cd_ends ct_ends : Value}
    {od_rename an_rename : Option Addr} {sl_rename : Array (Option Value)} {oc_rename kV_rename dc_rename pm_rename cd_rename ct_rename : Value}
    {od_means an_means : Option Addr} {sl_means : Array (Option Value)} {oc_means kV_means dc_means pm_means cd_means ct_means : Value}
    {od_too_long an_too_long : Option Addr} {sl_too_long : Array (Option Value)} {oc_too_long kV_too_long dc_too_long pm_too_long cd_too_long ct_too_long : Value}
    {od_counted an_counted : Option Addr} {sl_counted : Array (Option Value)} {oc_counted kV_counted dc_counted pm_counted cd_counted ct_counted : Value}
    {od_spelled_answer an_spelled_answer : Option Addr} {sl_spelled_answer : Array (Option Value)} {oc_spelled_answer kV_spelled_answer dc_spelled_answer pm_spelled_answer cd_spelled_answer ct_spelled_answer : Value}
    {od_spell an_spell : Option Addr} {sl_spell : Array (Option Value)} {oc_spell kV_spell dc_spell pm_spell cd_spell ct_spell : Value}
    {od_text an_text : Option Addr} {sl_text : Array (Option Value)} {oc_text kV_text dc_text pm_text cd_text ct_text : Value}
    {od_circles an_circles : Option Addr} {sl_circles : Array (Option Value)} {oc_circles kV_circles dc_circles pm_circles cd_circles ct_circles : Value}
    {od_unused an_unused : Option Addr} {sl_unused : Array (Option Value)} {oc_unused kV_unused dc_unused pm_unused cd_unused ct_unused : Value}
    {od_hidden an_hidden : Option Addr} {sl_hidden : Array (Option Value)} {oc_hidden kV_hidden dc_hidden pm_hidden cd_hidden ct_hidden : Value}
    {od_Law_begin an_Law_begin : Option Addr} {sl_Law_begin : Array (Option Value)} {oc_Law_begin kV_Law_begin dc_Law_begin pm_Law_begin cd_Law_begin ct_Law_begin : Value}
    {od_Law an_Law : Option Addr} {sl_Law : Array (Option Value)} {oc_Law kV_Law dc_Law pm_Law cd_Law ct_Law : Value}
    {od_begins an_begins : Option Addr} {sl_begins : Array (Option Value)} {oc_begins kV_begins dc_begins pm_begins cd_begins ct_begins : Value}
    {od_differs an_differs : Option Addr} {sl_differs : Array (Option Value)} {oc_differs kV_differs dc_differs pm_differs cd_differs ct_differs : Value}
    {od_changes an_changes : Option Addr} {sl_changes : Array (Option Value)} {oc_changes kV_changes dc_changes pm_changes cd_changes ct_changes : Value}
    {od_answers an_answers : Option Addr} {sl_answers : Array (Option Value)} {oc_answers kV_answers dc_answers pm_answers cd_answers ct_answers : Value}
    {tk_WITHOUT_END : Tok}
    {tk_MOST_SPELLED : Tok}
    {tk_WRONG : Tok}
    {tk_NOT_THERE : Tok}
    {tk_TAKEN : Tok}
    {tk_TOO_MUCH : Tok}
    {tk_STANDS_NOWHERE : Tok}
    {tk_IN_A_CIRCLE : Tok}
    {tk_MOST_WORDS : Tok}
    {tk_LAST_WORD : Tok}
    {tk_LAST_DAY : Tok}
    {tk_MOST_PARTS : Tok}
    {tk_MOST_DEFINITIONS : Tok}
    {odT : Option Addr} {slT : Array (Option Value)} {nT : Nat}
    (aC_Law : PySem.W.nsIn K mainGlobals "Law" = some (some (.ref CLaw)))
    (pg_Law : PySem.W.plainGet K CLaw Str.empty = true)
    (hd_Law : PySem.W.hasDictIn K CLaw = true)
    (po_Law : PySem.W.plainOver K CLaw = true)
    (sa_Law : PySem.W.findIn K (.ref CLaw) "__setattr__" = some (some (.builtin "object.__setattr__")))
    (mk_Law : PySem.W.makesIn K CLaw = true)
    (kc_Law : PySem.W.keepIn K (.ref CLaw) = true)
    (n_Law_parts : PySem.W.findIn K (.ref CLaw) "parts" = some none)
    (n_Law_definitions : PySem.W.findIn K (.ref CLaw) "definitions" = some none)
    (aC_Part : PySem.W.nsIn K mainGlobals "Part" = some (some (.ref CPart)))
    (pg_Part : PySem.W.plainGet K CPart Str.empty = true)
    (hd_Part : PySem.W.hasDictIn K CPart = true)
    (po_Part : PySem.W.plainOver K CPart = true)
    (sa_Part : PySem.W.findIn K (.ref CPart) "__setattr__" = some (some (.builtin "object.__setattr__")))
    (mk_Part : PySem.W.makesIn K CPart = true)
    (kc_Part : PySem.W.keepIn K (.ref CPart) = true)
    (n_Part_above : PySem.W.findIn K (.ref CPart) "above" = some none)
    (n_Part_words : PySem.W.findIn K (.ref CPart) "words" = some none)
    (aC_Definition : PySem.W.nsIn K mainGlobals "Definition" = some (some (.ref CDefinition)))
    (pg_Definition : PySem.W.plainGet K CDefinition Str.empty = true)
    (hd_Definition : PySem.W.hasDictIn K CDefinition = true)
    (po_Definition : PySem.W.plainOver K CDefinition = true)
    (sa_Definition : PySem.W.findIn K (.ref CDefinition) "__setattr__" = some (some (.builtin "object.__setattr__")))
    (mk_Definition : PySem.W.makesIn K CDefinition = true)
    (kc_Definition : PySem.W.keepIn K (.ref CDefinition) = true)
    (n_Definition_part : PySem.W.findIn K (.ref CDefinition) "part" = some none)
    (n_Definition_word : PySem.W.findIn K (.ref CDefinition) "word" = some none)
    (n_Definition_since : PySem.W.findIn K (.ref CDefinition) "since" = some none)
    (n_Definition_until : PySem.W.findIn K (.ref CDefinition) "until" = some none)
    (n_Definition_body : PySem.W.findIn K (.ref CDefinition) "body" = some none)
    (a_in_force : PySem.W.nsIn K mainGlobals "in_force" = some (some (.ref f_in_force)))
    (l_in_force : K.lookup f_in_force = some ⟨oc_in_force, od_in_force, .func (PySem.W.fnOf "in_force" "in_force" (defArgs s_in_force) (defBody s_in_force) (defScope s_in_force) .none kV_in_force dc_in_force pm_in_force an_in_force cd_in_force ct_in_force), sl_in_force⟩)
    (c_in_force : PySem.W.codeIn K cd_in_force "in_force" = true)
    (k_in_force : PySem.W.keepIn K (.ref f_in_force) = true)
    (a_numbers_in_force : PySem.W.nsIn K mainGlobals "numbers_in_force" = some (some (.ref f_numbers_in_force)))
    (l_numbers_in_force : K.lookup f_numbers_in_force = some ⟨oc_numbers_in_force, od_numbers_in_force, .func (PySem.W.fnOf "numbers_in_force" "numbers_in_force" (defArgs s_numbers_in_force) (defBody s_numbers_in_force) (defScope s_numbers_in_force) .none kV_numbers_in_force dc_numbers_in_force pm_numbers_in_force an_numbers_in_force cd_numbers_in_force ct_numbers_in_force), sl_numbers_in_force⟩)
    (c_numbers_in_force : PySem.W.codeIn K cd_numbers_in_force "numbers_in_force" = true)
    (k_numbers_in_force : PySem.W.keepIn K (.ref f_numbers_in_force) = true)
    (a_counting_on : PySem.W.nsIn K mainGlobals "counting_on" = some (some (.ref f_counting_on)))
    (l_counting_on : K.lookup f_counting_on = some ⟨oc_counting_on, od_counting_on, .func (PySem.W.fnOf "counting_on" "counting_on" (defArgs s_counting_on) (defBody s_counting_on) (defScope s_counting_on) .none kV_counting_on dc_counting_on pm_counting_on an_counting_on cd_counting_on ct_counting_on), sl_counting_on⟩)
    (c_counting_on : PySem.W.codeIn K cd_counting_on "counting_on" = true)
    (k_counting_on : PySem.W.keepIn K (.ref f_counting_on) = true)
    (a_definition_at : PySem.W.nsIn K mainGlobals "definition_at" = some (some (.ref f_definition_at)))
    (l_definition_at : K.lookup f_definition_at = some ⟨oc_definition_at, od_definition_at, .func (PySem.W.fnOf "definition_at" "definition_at" (defArgs s_definition_at) (defBody s_definition_at) (defScope s_definition_at) .none kV_definition_at dc_definition_at pm_definition_at an_definition_at cd_definition_at ct_definition_at), sl_definition_at⟩)
    (c_definition_at : PySem.W.codeIn K cd_definition_at "definition_at" = true)
    (k_definition_at : PySem.W.keepIn K (.ref f_definition_at) = true)
    (a_definitions_at : PySem.W.nsIn K mainGlobals "definitions_at" = some (some (.ref f_definitions_at)))
    (l_definitions_at : K.lookup f_definitions_at = some ⟨oc_definitions_at, od_definitions_at, .func (PySem.W.fnOf "definitions_at" "definitions_at" (defArgs s_definitions_at) (defBody s_definitions_at) (defScope s_definitions_at) .none kV_definitions_at dc_definitions_at pm_definitions_at an_definitions_at cd_definitions_at ct_definitions_at), sl_definitions_at⟩)
    (c_definitions_at : PySem.W.codeIn K cd_definitions_at "definitions_at" = true)
    (k_definitions_at : PySem.W.keepIn K (.ref f_definitions_at) = true)
    (a_definitions_in_body : PySem.W.nsIn K mainGlobals "definitions_in_body" = some (some (.ref f_definitions_in_body)))
    (l_definitions_in_body : K.lookup f_definitions_in_body = some ⟨oc_definitions_in_body, od_definitions_in_body, .func (PySem.W.fnOf "definitions_in_body" "definitions_in_body" (defArgs s_definitions_in_body) (defBody s_definitions_in_body) (defScope s_definitions_in_body) .none kV_definitions_in_body dc_definitions_in_body pm_definitions_in_body an_definitions_in_body cd_definitions_in_body ct_definitions_in_body), sl_definitions_in_body⟩)
    (c_definitions_in_body : PySem.W.codeIn K cd_definitions_in_body "definitions_in_body" = true)
    (k_definitions_in_body : PySem.W.keepIn K (.ref f_definitions_in_body) = true)
    (a_is_hidden : PySem.W.nsIn K mainGlobals "is_hidden" = some (some (.ref f_is_hidden)))
    (l_is_hidden : K.lookup f_is_hidden = some ⟨oc_is_hidden, od_is_hidden, .func (PySem.W.fnOf "is_hidden" "is_hidden" (defArgs s_is_hidden) (defBody s_is_hidden) (defScope s_is_hidden) .none kV_is_hidden dc_is_hidden pm_is_hidden an_is_hidden cd_is_hidden ct_is_hidden), sl_is_hidden⟩)
    (c_is_hidden : PySem.W.codeIn K cd_is_hidden "is_hidden" = true)
    (k_is_hidden : PySem.W.keepIn K (.ref f_is_hidden) = true)
    (a_hidden_on : PySem.W.nsIn K mainGlobals "hidden_on" = some (some (.ref f_hidden_on)))
    (l_hidden_on : K.lookup f_hidden_on = some ⟨oc_hidden_on, od_hidden_on, .func (PySem.W.fnOf "hidden_on" "hidden_on" (defArgs s_hidden_on) (defBody s_hidden_on) (defScope s_hidden_on) .none kV_hidden_on dc_hidden_on pm_hidden_on an_hidden_on cd_hidden_on ct_hidden_on), sl_hidden_on⟩)
    (c_hidden_on : PySem.W.codeIn K cd_hidden_on "hidden_on" = true)
    (k_hidden_on : PySem.W.keepIn K (.ref f_hidden_on) = true)
    (a_turning_days : PySem.W.nsIn K mainGlobals "turning_days" = some (some (.ref f_turning_days)))
    (l_turning_days : K.lookup f_turning_days = some ⟨oc_turning_days, od_turning_days, .func (PySem.W.fnOf "turning_days" "turning_days" (defArgs s_turning_days) (defBody s_turning_days) (defScope s_turning_days) .none kV_turning_days dc_turning_days pm_turning_days an_turning_days cd_turning_days ct_turning_days), sl_turning_days⟩)
    (c_turning_days : PySem.W.codeIn K cd_turning_days "turning_days" = true)
    (k_turning_days : PySem.W.keepIn K (.ref f_turning_days) = true)
    (a_all_spelled : PySem.W.nsIn K mainGlobals "all_spelled" = some (some (.ref f_all_spelled)))
    (l_all_spelled : K.lookup f_all_spelled = some ⟨oc_all_spelled, od_all_spelled, .func (PySem.W.fnOf "all_spelled" "all_spelled" (defArgs s_all_spelled) (defBody s_all_spelled) (defScope s_all_spelled) .none kV_all_spelled dc_all_spelled pm_all_spelled an_all_spelled cd_all_spelled ct_all_spelled), sl_all_spelled⟩)
    (c_all_spelled : PySem.W.codeIn K cd_all_spelled "all_spelled" = true)
    (k_all_spelled : PySem.W.keepIn K (.ref f_all_spelled) = true)
    (a_put_together : PySem.W.nsIn K mainGlobals "put_together" = some (some (.ref f_put_together)))
    (l_put_together : K.lookup f_put_together = some ⟨oc_put_together, od_put_together, .func (PySem.W.fnOf "put_together" "put_together" (defArgs s_put_together) (defBody s_put_together) (defScope s_put_together) .none kV_put_together dc_put_together pm_put_together an_put_together cd_put_together ct_put_together), sl_put_together⟩)
    (c_put_together : PySem.W.codeIn K cd_put_together "put_together" = true)
    (k_put_together : PySem.W.keepIn K (.ref f_put_together) = true)
    (a_links_of_bodies : PySem.W.nsIn K mainGlobals "links_of_bodies" = some (some (.ref f_links_of_bodies)))
    (l_links_of_bodies : K.lookup f_links_of_bodies = some ⟨oc_links_of_bodies, od_links_of_bodies, .func (PySem.W.fnOf "links_of_bodies" "links_of_bodies" (defArgs s_links_of_bodies) (defBody s_links_of_bodies) (defScope s_links_of_bodies) .none kV_links_of_bodies dc_links_of_bodies pm_links_of_bodies an_links_of_bodies cd_links_of_bodies ct_links_of_bodies), sl_links_of_bodies⟩)
    (c_links_of_bodies : PySem.W.codeIn K cd_links_of_bodies "links_of_bodies" = true)
    (k_links_of_bodies : PySem.W.keepIn K (.ref f_links_of_bodies) = true)
    (a_spelled_bodies : PySem.W.nsIn K mainGlobals "spelled_bodies" = some (some (.ref f_spelled_bodies)))
    (l_spelled_bodies : K.lookup f_spelled_bodies = some ⟨oc_spelled_bodies, od_spelled_bodies, .func (PySem.W.fnOf "spelled_bodies" "spelled_bodies" (defArgs s_spelled_bodies) (defBody s_spelled_bodies) (defScope s_spelled_bodies) .none kV_spelled_bodies dc_spelled_bodies pm_spelled_bodies an_spelled_bodies cd_spelled_bodies ct_spelled_bodies), sl_spelled_bodies⟩)
    (c_spelled_bodies : PySem.W.codeIn K cd_spelled_bodies "spelled_bodies" = true)
    (k_spelled_bodies : PySem.W.keepIn K (.ref f_spelled_bodies) = true)
    (a_spelled_out : PySem.W.nsIn K mainGlobals "spelled_out" = some (some (.ref f_spelled_out)))
    (l_spelled_out : K.lookup f_spelled_out = some ⟨oc_spelled_out, od_spelled_out, .func (PySem.W.fnOf "spelled_out" "spelled_out" (defArgs s_spelled_out) (defBody s_spelled_out) (defScope s_spelled_out) .none kV_spelled_out dc_spelled_out pm_spelled_out an_spelled_out cd_spelled_out ct_spelled_out), sl_spelled_out⟩)
    (c_spelled_out : PySem.W.codeIn K cd_spelled_out "spelled_out" = true)
    (k_spelled_out : PySem.W.keepIn K (.ref f_spelled_out) = true)
    (a_definitions_in_texts : PySem.W.nsIn K mainGlobals "definitions_in_texts" = some (some (.ref f_definitions_in_texts)))
    (l_definitions_in_texts : K.lookup f_definitions_in_texts = some ⟨oc_definitions_in_texts, od_definitions_in_texts, .func (PySem.W.fnOf "definitions_in_texts" "definitions_in_texts" (defArgs s_definitions_in_texts) (defBody s_definitions_in_texts) (defScope s_definitions_in_texts) .none kV_definitions_in_texts dc_definitions_in_texts pm_definitions_in_texts an_definitions_in_texts cd_definitions_in_texts ct_definitions_in_texts), sl_definitions_in_texts⟩)
    (c_definitions_in_texts : PySem.W.codeIn K cd_definitions_in_texts "definitions_in_texts" = true)
    (k_definitions_in_texts : PySem.W.keepIn K (.ref f_definitions_in_texts) = true)
    (a_needed_on : PySem.W.nsIn K mainGlobals "needed_on" = some (some (.ref f_needed_on)))
    (l_needed_on : K.lookup f_needed_on = some ⟨oc_needed_on, od_needed_on, .func (PySem.W.fnOf "needed_on" "needed_on" (defArgs s_needed_on) (defBody s_needed_on) (defScope s_needed_on) .none kV_needed_on dc_needed_on pm_needed_on an_needed_on cd_needed_on ct_needed_on), sl_needed_on⟩)
    (c_needed_on : PySem.W.codeIn K cd_needed_on "needed_on" = true)
    (k_needed_on : PySem.W.keepIn K (.ref f_needed_on) = true)
    (a_unused_on : PySem.W.nsIn K mainGlobals "unused_on" = some (some (.ref f_unused_on)))
    (l_unused_on : K.lookup f_unused_on = some ⟨oc_unused_on, od_unused_on, .func (PySem.W.fnOf "unused_on" "unused_on" (defArgs s_unused_on) (defBody s_unused_on) (defScope s_unused_on) .none kV_unused_on dc_unused_on pm_unused_on an_unused_on cd_unused_on ct_unused_on), sl_unused_on⟩)
    (c_unused_on : PySem.W.codeIn K cd_unused_on "unused_on" = true)
    (k_unused_on : PySem.W.keepIn K (.ref f_unused_on) = true)
    (a_leading_into_circles : PySem.W.nsIn K mainGlobals "leading_into_circles" = some (some (.ref f_leading_into_circles)))
    (l_leading_into_circles : K.lookup f_leading_into_circles = some ⟨oc_leading_into_circles, od_leading_into_circles, .func (PySem.W.fnOf "leading_into_circles" "leading_into_circles" (defArgs s_leading_into_circles) (defBody s_leading_into_circles) (defScope s_leading_into_circles) .none kV_leading_into_circles dc_leading_into_circles pm_leading_into_circles an_leading_into_circles cd_leading_into_circles ct_leading_into_circles), sl_leading_into_circles⟩)
    (c_leading_into_circles : PySem.W.codeIn K cd_leading_into_circles "leading_into_circles" = true)
    (k_leading_into_circles : PySem.W.keepIn K (.ref f_leading_into_circles) = true)
    (a_wrong_word : PySem.W.nsIn K mainGlobals "wrong_word" = some (some (.ref f_wrong_word)))
    (l_wrong_word : K.lookup f_wrong_word = some ⟨oc_wrong_word, od_wrong_word, .func (PySem.W.fnOf "wrong_word" "wrong_word" (defArgs s_wrong_word) (defBody s_wrong_word) (defScope s_wrong_word) .none kV_wrong_word dc_wrong_word pm_wrong_word an_wrong_word cd_wrong_word ct_wrong_word), sl_wrong_word⟩)
    (c_wrong_word : PySem.W.codeIn K cd_wrong_word "wrong_word" = true)
    (k_wrong_word : PySem.W.keepIn K (.ref f_wrong_word) = true)
    (a_wrong_words : PySem.W.nsIn K mainGlobals "wrong_words" = some (some (.ref f_wrong_words)))
    (l_wrong_words : K.lookup f_wrong_words = some ⟨oc_wrong_words, od_wrong_words, .func (PySem.W.fnOf "wrong_words" "wrong_words" (defArgs s_wrong_words) (defBody s_wrong_words) (defScope s_wrong_words) .none kV_wrong_words dc_wrong_words pm_wrong_words an_wrong_words cd_wrong_words ct_wrong_words), sl_wrong_words⟩)
    (c_wrong_words : PySem.W.codeIn K cd_wrong_words "wrong_words" = true)
    (k_wrong_words : PySem.W.keepIn K (.ref f_wrong_words) = true)
    (a_wrong_end : PySem.W.nsIn K mainGlobals "wrong_end" = some (some (.ref f_wrong_end)))
    (l_wrong_end : K.lookup f_wrong_end = some ⟨oc_wrong_end, od_wrong_end, .func (PySem.W.fnOf "wrong_end" "wrong_end" (defArgs s_wrong_end) (defBody s_wrong_end) (defScope s_wrong_end) .none kV_wrong_end dc_wrong_end pm_wrong_end an_wrong_end cd_wrong_end ct_wrong_end), sl_wrong_end⟩)
    (c_wrong_end : PySem.W.codeIn K cd_wrong_end "wrong_end" = true)
    (k_wrong_end : PySem.W.keepIn K (.ref f_wrong_end) = true)
    (a_wrong_days : PySem.W.nsIn K mainGlobals "wrong_days" = some (some (.ref f_wrong_days)))
    (l_wrong_days : K.lookup f_wrong_days = some ⟨oc_wrong_days, od_wrong_days, .func (PySem.W.fnOf "wrong_days" "wrong_days" (defArgs s_wrong_days) (defBody s_wrong_days) (defScope s_wrong_days) .none kV_wrong_days dc_wrong_days pm_wrong_days an_wrong_days cd_wrong_days ct_wrong_days), sl_wrong_days⟩)
    (c_wrong_days : PySem.W.codeIn K cd_wrong_days "wrong_days" = true)
    (k_wrong_days : PySem.W.keepIn K (.ref f_wrong_days) = true)
    (a_renamed : PySem.W.nsIn K mainGlobals "renamed" = some (some (.ref f_renamed)))
    (l_renamed : K.lookup f_renamed = some ⟨oc_renamed, od_renamed, .func (PySem.W.fnOf "renamed" "renamed" (defArgs s_renamed) (defBody s_renamed) (defScope s_renamed) .none kV_renamed dc_renamed pm_renamed an_renamed cd_renamed ct_renamed), sl_renamed⟩)
    (c_renamed : PySem.W.codeIn K cd_renamed "renamed" = true)
    (k_renamed : PySem.W.keepIn K (.ref f_renamed) = true)
    (a_stands_somewhere : PySem.W.nsIn K mainGlobals "stands_somewhere" = some (some (.ref f_stands_somewhere)))
    (l_stands_somewhere : K.lookup f_stands_somewhere = some ⟨oc_stands_somewhere, od_stands_somewhere, .func (PySem.W.fnOf "stands_somewhere" "stands_somewhere" (defArgs s_stands_somewhere) (defBody s_stands_somewhere) (defScope s_stands_somewhere) .none kV_stands_somewhere dc_stands_somewhere pm_stands_somewhere an_stands_somewhere cd_stands_somewhere ct_stands_somewhere), sl_stands_somewhere⟩)
    (c_stands_somewhere : PySem.W.codeIn K cd_stands_somewhere "stands_somewhere" = true)
    (k_stands_somewhere : PySem.W.keepIn K (.ref f_stands_somewhere) = true)
    (a_Part : PySem.W.findIn K (.ref CPart) "__init__" = some (some (.ref f_Part)))
    (i_Part : PySem.W.isFn K (.ref f_Part) = true)
    (l_Part : K.lookup f_Part = some ⟨oc_Part, od_Part, .func (PySem.W.fnOf "__init__" "Part.__init__" (defArgs s_Part___init__) (defBody s_Part___init__) (defScope s_Part___init__) .none kV_Part dc_Part pm_Part an_Part cd_Part ct_Part), sl_Part⟩)
    (c_Part : PySem.W.codeIn K cd_Part "Part.__init__" = true)
    (k_Part : PySem.W.keepIn K (.ref f_Part) = true)
    (a_Definition : PySem.W.findIn K (.ref CDefinition) "__init__" = some (some (.ref f_Definition)))
    (i_Definition : PySem.W.isFn K (.ref f_Definition) = true)
    (l_Definition : K.lookup f_Definition = some ⟨oc_Definition, od_Definition, .func (PySem.W.fnOf "__init__" "Definition.__init__" (defArgs s_Definition___init__) (defBody s_Definition___init__) (defScope s_Definition___init__) .none kV_Definition dc_Definition pm_Definition an_Definition cd_Definition ct_Definition), sl_Definition⟩)
    (c_Definition : PySem.W.codeIn K cd_Definition "Definition.__init__" = true)
    (k_Definition : PySem.W.keepIn K (.ref f_Definition) = true)
    (a_add_part : PySem.W.nsIn K mainGlobals "add_part" = some (some (.ref f_add_part)))
    (l_add_part : K.lookup f_add_part = some ⟨oc_add_part, od_add_part, .func (PySem.W.fnOf "add_part" "add_part" (defArgs s_add_part) (defBody s_add_part) (defScope s_add_part) .none kV_add_part dc_add_part pm_add_part an_add_part cd_add_part ct_add_part), sl_add_part⟩)
    (c_add_part : PySem.W.codeIn K cd_add_part "add_part" = true)
    (k_add_part : PySem.W.keepIn K (.ref f_add_part) = true)
    (a_define : PySem.W.nsIn K mainGlobals "define" = some (some (.ref f_define)))
    (l_define : K.lookup f_define = some ⟨oc_define, od_define, .func (PySem.W.fnOf "define" "define" (defArgs s_define) (defBody s_define) (defScope s_define) .none kV_define dc_define pm_define an_define cd_define ct_define), sl_define⟩)
    (c_define : PySem.W.codeIn K cd_define "define" = true)
    (k_define : PySem.W.keepIn K (.ref f_define) = true)
    (a_ends : PySem.W.nsIn K mainGlobals "ends" = some (some (.ref f_ends)))
    (l_ends : K.lookup f_ends = some ⟨oc_ends, od_ends, .func (PySem.W.fnOf "ends" "ends" (defArgs s_ends) (defBody s_ends) (defScope s_ends) .none kV_ends dc_ends pm_ends an_ends cd_ends ct_ends), sl_ends⟩)
    (c_ends : PySem.W.codeIn K cd_ends "ends" = true)
    (k_ends : PySem.W.keepIn K (.ref f_ends) = true)
    (a_rename : PySem.W.nsIn K mainGlobals "rename" = some (some (.ref f_rename)))
    (l_rename : K.lookup f_rename = some ⟨oc_rename, od_rename, .func (PySem.W.fnOf "rename" "rename" (defArgs s_rename) (defBody s_rename) (defScope s_rename) .none kV_rename dc_rename pm_rename an_rename cd_rename ct_rename), sl_rename⟩)
    (c_rename : PySem.W.codeIn K cd_rename "rename" = true)
    (k_rename : PySem.W.keepIn K (.ref f_rename) = true)
    (a_means : PySem.W.nsIn K mainGlobals "means" = some (some (.ref f_means)))
    (l_means : K.lookup f_means = some ⟨oc_means, od_means, .func (PySem.W.fnOf "means" "means" (defArgs s_means) (defBody s_means) (defScope s_means) .none kV_means dc_means pm_means an_means cd_means ct_means), sl_means⟩)
    (c_means : PySem.W.codeIn K cd_means "means" = true)
    (k_means : PySem.W.keepIn K (.ref f_means) = true)
    (a_too_long : PySem.W.nsIn K mainGlobals "too_long" = some (some (.ref f_too_long)))
    (l_too_long : K.lookup f_too_long = some ⟨oc_too_long, od_too_long, .func (PySem.W.fnOf "too_long" "too_long" (defArgs s_too_long) (defBody s_too_long) (defScope s_too_long) .none kV_too_long dc_too_long pm_too_long an_too_long cd_too_long ct_too_long), sl_too_long⟩)
    (c_too_long : PySem.W.codeIn K cd_too_long "too_long" = true)
    (k_too_long : PySem.W.keepIn K (.ref f_too_long) = true)
    (a_counted : PySem.W.nsIn K mainGlobals "counted" = some (some (.ref f_counted)))
    (l_counted : K.lookup f_counted = some ⟨oc_counted, od_counted, .func (PySem.W.fnOf "counted" "counted" (defArgs s_counted) (defBody s_counted) (defScope s_counted) .none kV_counted dc_counted pm_counted an_counted cd_counted ct_counted), sl_counted⟩)
    (c_counted : PySem.W.codeIn K cd_counted "counted" = true)
    (k_counted : PySem.W.keepIn K (.ref f_counted) = true)
    (a_spelled_answer : PySem.W.nsIn K mainGlobals "spelled_answer" = some (some (.ref f_spelled_answer)))
    (l_spelled_answer : K.lookup f_spelled_answer = some ⟨oc_spelled_answer, od_spelled_answer, .func (PySem.W.fnOf "spelled_answer" "spelled_answer" (defArgs s_spelled_answer) (defBody s_spelled_answer) (defScope s_spelled_answer) .none kV_spelled_answer dc_spelled_answer pm_spelled_answer an_spelled_answer cd_spelled_answer ct_spelled_answer), sl_spelled_answer⟩)
    (c_spelled_answer : PySem.W.codeIn K cd_spelled_answer "spelled_answer" = true)
    (k_spelled_answer : PySem.W.keepIn K (.ref f_spelled_answer) = true)
    (a_spell : PySem.W.nsIn K mainGlobals "spell" = some (some (.ref f_spell)))
    (l_spell : K.lookup f_spell = some ⟨oc_spell, od_spell, .func (PySem.W.fnOf "spell" "spell" (defArgs s_spell) (defBody s_spell) (defScope s_spell) .none kV_spell dc_spell pm_spell an_spell cd_spell ct_spell), sl_spell⟩)
    (c_spell : PySem.W.codeIn K cd_spell "spell" = true)
    (k_spell : PySem.W.keepIn K (.ref f_spell) = true)
    (a_text : PySem.W.nsIn K mainGlobals "text" = some (some (.ref f_text)))
    (l_text : K.lookup f_text = some ⟨oc_text, od_text, .func (PySem.W.fnOf "text" "text" (defArgs s_text) (defBody s_text) (defScope s_text) .none kV_text dc_text pm_text an_text cd_text ct_text), sl_text⟩)
    (c_text : PySem.W.codeIn K cd_text "text" = true)
    (k_text : PySem.W.keepIn K (.ref f_text) = true)
    (a_circles : PySem.W.nsIn K mainGlobals "circles" = some (some (.ref f_circles)))
    (l_circles : K.lookup f_circles = some ⟨oc_circles, od_circles, .func (PySem.W.fnOf "circles" "circles" (defArgs s_circles) (defBody s_circles) (defScope s_circles) .none kV_circles dc_circles pm_circles an_circles cd_circles ct_circles), sl_circles⟩)
    (c_circles : PySem.W.codeIn K cd_circles "circles" = true)
    (k_circles : PySem.W.keepIn K (.ref f_circles) = true)
    (a_unused : PySem.W.nsIn K mainGlobals "unused" = some (some (.ref f_unused)))
    (l_unused : K.lookup f_unused = some ⟨oc_unused, od_unused, .func (PySem.W.fnOf "unused" "unused" (defArgs s_unused) (defBody s_unused) (defScope s_unused) .none kV_unused dc_unused pm_unused an_unused cd_unused ct_unused), sl_unused⟩)
    (c_unused : PySem.W.codeIn K cd_unused "unused" = true)
    (k_unused : PySem.W.keepIn K (.ref f_unused) = true)
    (a_hidden : PySem.W.nsIn K mainGlobals "hidden" = some (some (.ref f_hidden)))
    (l_hidden : K.lookup f_hidden = some ⟨oc_hidden, od_hidden, .func (PySem.W.fnOf "hidden" "hidden" (defArgs s_hidden) (defBody s_hidden) (defScope s_hidden) .none kV_hidden dc_hidden pm_hidden an_hidden cd_hidden ct_hidden), sl_hidden⟩)
    (c_hidden : PySem.W.codeIn K cd_hidden "hidden" = true)
    (k_hidden : PySem.W.keepIn K (.ref f_hidden) = true)
    (a_Law_begin : PySem.W.findIn K (.ref CLaw) "begin" = some (some (.ref f_Law_begin)))
    (i_Law_begin : PySem.W.isFn K (.ref f_Law_begin) = true)
    (l_Law_begin : K.lookup f_Law_begin = some ⟨oc_Law_begin, od_Law_begin, .func (PySem.W.fnOf "begin" "Law.begin" (defArgs s_Law_begin) (defBody s_Law_begin) (defScope s_Law_begin) .none kV_Law_begin dc_Law_begin pm_Law_begin an_Law_begin cd_Law_begin ct_Law_begin), sl_Law_begin⟩)
    (c_Law_begin : PySem.W.codeIn K cd_Law_begin "Law.begin" = true)
    (k_Law_begin : PySem.W.keepIn K (.ref f_Law_begin) = true)
    (a_Law : PySem.W.findIn K (.ref CLaw) "__init__" = some (some (.ref f_Law)))
    (i_Law : PySem.W.isFn K (.ref f_Law) = true)
    (l_Law : K.lookup f_Law = some ⟨oc_Law, od_Law, .func (PySem.W.fnOf "__init__" "Law.__init__" (defArgs s_Law___init__) (defBody s_Law___init__) (defScope s_Law___init__) .none kV_Law dc_Law pm_Law an_Law cd_Law ct_Law), sl_Law⟩)
    (c_Law : PySem.W.codeIn K cd_Law "Law.__init__" = true)
    (k_Law : PySem.W.keepIn K (.ref f_Law) = true)
    (a_begins : PySem.W.nsIn K mainGlobals "begins" = some (some (.ref f_begins)))
    (l_begins : K.lookup f_begins = some ⟨oc_begins, od_begins, .func (PySem.W.fnOf "begins" "begins" (defArgs s_begins) (defBody s_begins) (defScope s_begins) .none kV_begins dc_begins pm_begins an_begins cd_begins ct_begins), sl_begins⟩)
    (c_begins : PySem.W.codeIn K cd_begins "begins" = true)
    (k_begins : PySem.W.keepIn K (.ref f_begins) = true)
    (a_differs : PySem.W.nsIn K mainGlobals "differs" = some (some (.ref f_differs)))
    (l_differs : K.lookup f_differs = some ⟨oc_differs, od_differs, .func (PySem.W.fnOf "differs" "differs" (defArgs s_differs) (defBody s_differs) (defScope s_differs) .none kV_differs dc_differs pm_differs an_differs cd_differs ct_differs), sl_differs⟩)
    (c_differs : PySem.W.codeIn K cd_differs "differs" = true)
    (k_differs : PySem.W.keepIn K (.ref f_differs) = true)
    (a_changes : PySem.W.nsIn K mainGlobals "changes" = some (some (.ref f_changes)))
    (l_changes : K.lookup f_changes = some ⟨oc_changes, od_changes, .func (PySem.W.fnOf "changes" "changes" (defArgs s_changes) (defBody s_changes) (defScope s_changes) .none kV_changes dc_changes pm_changes an_changes cd_changes ct_changes), sl_changes⟩)
    (c_changes : PySem.W.codeIn K cd_changes "changes" = true)
    (k_changes : PySem.W.keepIn K (.ref f_changes) = true)
    (a_answers : PySem.W.nsIn K mainGlobals "answers" = some (some (.ref f_answers)))
    (l_answers : K.lookup f_answers = some ⟨oc_answers, od_answers, .func (PySem.W.fnOf "answers" "answers" (defArgs s_answers) (defBody s_answers) (defScope s_answers) .none kV_answers dc_answers pm_answers an_answers cd_answers ct_answers), sl_answers⟩)
    (c_answers : PySem.W.codeIn K cd_answers "answers" = true)
    (k_answers : PySem.W.keepIn K (.ref f_answers) = true)
    (g_WITHOUT_END : PySem.W.nsIn K mainGlobals "WITHOUT_END" = some (some (.int (0) tk_WITHOUT_END)))
    (g_MOST_SPELLED : PySem.W.nsIn K mainGlobals "MOST_SPELLED" = some (some (.int (1000) tk_MOST_SPELLED)))
    (g_WRONG : PySem.W.nsIn K mainGlobals "WRONG" = some (some (.int (-1) tk_WRONG)))
    (g_NOT_THERE : PySem.W.nsIn K mainGlobals "NOT_THERE" = some (some (.int (-2) tk_NOT_THERE)))
    (g_TAKEN : PySem.W.nsIn K mainGlobals "TAKEN" = some (some (.int (-3) tk_TAKEN)))
    (g_TOO_MUCH : PySem.W.nsIn K mainGlobals "TOO_MUCH" = some (some (.int (-5) tk_TOO_MUCH)))
    (g_STANDS_NOWHERE : PySem.W.nsIn K mainGlobals "STANDS_NOWHERE" = some (some (.int (-6) tk_STANDS_NOWHERE)))
    (g_IN_A_CIRCLE : PySem.W.nsIn K mainGlobals "IN_A_CIRCLE" = some (some (.int (-7) tk_IN_A_CIRCLE)))
    (g_MOST_WORDS : PySem.W.nsIn K mainGlobals "MOST_WORDS" = some (some (.int (20) tk_MOST_WORDS)))
    (g_LAST_WORD : PySem.W.nsIn K mainGlobals "LAST_WORD" = some (some (.int (99999) tk_LAST_WORD)))
    (g_LAST_DAY : PySem.W.nsIn K mainGlobals "LAST_DAY" = some (some (.int (99999) tk_LAST_DAY)))
    (g_MOST_PARTS : PySem.W.nsIn K mainGlobals "MOST_PARTS" = some (some (.int (15) tk_MOST_PARTS)))
    (g_MOST_DEFINITIONS : PySem.W.nsIn K mainGlobals "MOST_DEFINITIONS" = some (some (.int (20) tk_MOST_DEFINITIONS)))
    (b_len : PySem.W.nsIn K mainGlobals "len" = some none)
    (b_any : PySem.W.nsIn K mainGlobals "any" = some none)
    (b_all : PySem.W.nsIn K mainGlobals "all" = some none)
    (b_enumerate : PySem.W.nsIn K mainGlobals "enumerate" = some none)
    (b_zip : PySem.W.nsIn K mainGlobals "zip" = some none)
    (b_range : PySem.W.nsIn K mainGlobals "range" = some none)
    (b_set : PySem.W.nsIn K mainGlobals "set" = some none)
    (b_sorted : PySem.W.nsIn K mainGlobals "sorted" = some none)
    (t1 : PySem.W.nsIn K mainGlobals "CALLS" = some (some (.ref ct)))
    (t2 : K.lookup ct = some ⟨.type "tuple", odT, .seq #[.ref f_begins, .ref f_add_part, .ref f_define, .ref f_ends, .ref f_rename, .ref f_means, .ref f_spell, .ref f_text, .ref f_circles, .ref f_unused, .ref f_hidden, .ref f_differs, .ref f_changes] nT, slT⟩)
    : ∃ fd : FuncData, (∀ (s : Shared) (us : List Value), us.length = (["calls"] : List Str).length → BindsTo s fd ⟨us, []⟩ ((["calls"] : List Str).zip us)) ∧ ∀ base : Heap, K.In base → base.Ns mainGlobals mg → FnOk P w K mg base CX0 9 fa fd ["calls"] (sp_answers K) := by
  have e := hfa.symm.trans (PySem.W.mg_of X G a_answers)
  cases e
  have T : Txt K mg ⟨CLaw, CPart, CDefinition⟩ := { clL := ⟨pg_Law, hd_Law, po_Law, sa_Law⟩, clP := ⟨pg_Part, hd_Part, po_Part, sa_Part⟩, clD := ⟨pg_Definition, hd_Definition, po_Definition, sa_Definition⟩, nL_parts := n_Law_parts, nL_defs := n_Law_definitions, nP_above := n_Part_above, nP_words := n_Part_words, nD_part := n_Definition_part, nD_word := n_Definition_word, nD_since := n_Definition_since, nD_until := n_Definition_until, nD_body := n_Definition_body, b_len := PySem.W.mg_none_of X G b_len, b_any := PySem.W.mg_none_of X G b_any, b_all := PySem.W.mg_none_of X G b_all, b_enumerate := PySem.W.mg_none_of X G b_enumerate, b_zip := PySem.W.mg_none_of X G b_zip, b_range := PySem.W.mg_none_of X G b_range, b_set := PySem.W.mg_none_of X G b_set, b_sorted := PySem.W.mg_none_of X G b_sorted, g_WITHOUT_END := ⟨_, PySem.W.mg_of X G g_WITHOUT_END⟩, g_MOST_SPELLED := ⟨_, PySem.W.mg_of X G g_MOST_SPELLED⟩, g_WRONG := ⟨_, PySem.W.mg_of X G g_WRONG⟩, g_NOT_THERE := ⟨_, PySem.W.mg_of X G g_NOT_THERE⟩, g_TAKEN := ⟨_, PySem.W.mg_of X G g_TAKEN⟩, g_TOO_MUCH := ⟨_, PySem.W.mg_of X G g_TOO_MUCH⟩, g_STANDS_NOWHERE := ⟨_, PySem.W.mg_of X G g_STANDS_NOWHERE⟩, g_IN_A_CIRCLE := ⟨_, PySem.W.mg_of X G g_IN_A_CIRCLE⟩, g_MOST_WORDS := ⟨_, PySem.W.mg_of X G g_MOST_WORDS⟩, g_LAST_WORD := ⟨_, PySem.W.mg_of X G g_LAST_WORD⟩, g_LAST_DAY := ⟨_, PySem.W.mg_of X G g_LAST_DAY⟩, g_MOST_PARTS := ⟨_, PySem.W.mg_of X G g_MOST_PARTS⟩, g_MOST_DEFINITIONS := ⟨_, PySem.W.mg_of X G g_MOST_DEFINITIONS⟩ }
  refine ⟨PySem.W.fnOf "answers" "answers" (defArgs s_answers) (defBody s_answers) (defScope s_answers) .none kV_answers dc_answers pm_answers an_answers cd_answers ct_answers, fun s us hu => us_1 (fun _ => .of_eq rfl) us hu, fun base _ _ => ?_⟩
  have F_in_force := fun_mk (st := s_in_force) l_in_force c_in_force k_in_force
  have B_in_force := F_in_force.binds (ps := ["definition", "day"]) fun _ _ _ _ _ _ us hl => us_2 (fun _ _ => rfl) us hl
  have D_in_force : FnD P w K mg base "in_force" 1 ["definition", "day"] (sp_in_force ⟨CLaw, CPart, CDefinition⟩) := FnD.mk F_in_force (PySem.W.mg_of X G a_in_force) B_in_force (ok_in_force F_in_force T)
  have F_numbers_in_force := fun_mk (st := s_numbers_in_force) l_numbers_in_force c_numbers_in_force k_numbers_in_force
  have B_numbers_in_force := F_numbers_in_force.binds (ps := ["law", "day"]) fun _ _ _ _ _ _ us hl => us_2 (fun _ _ => rfl) us hl
  have D_numbers_in_force : FnD P w K mg base "numbers_in_force" 2 ["law", "day"] (sp_numbers_in_force ⟨CLaw, CPart, CDefinition⟩) := FnD.mk F_numbers_in_force (PySem.W.mg_of X G a_numbers_in_force) B_numbers_in_force (ok_numbers_in_force F_numbers_in_force T D_in_force)
  have F_counting_on := fun_mk (st := s_counting_on) l_counting_on c_counting_on k_counting_on
  have B_counting_on := F_counting_on.binds (ps := ["law", "day"]) fun _ _ _ _ _ _ us hl => us_2 (fun _ _ => rfl) us hl
  have D_counting_on : FnD P w K mg base "counting_on" 3 ["law", "day"] (sp_counting_on ⟨CLaw, CPart, CDefinition⟩) := FnD.mk F_counting_on (PySem.W.mg_of X G a_counting_on) B_counting_on (ok_counting_on F_counting_on T D_numbers_in_force)
  have F_definition_at := fun_mk (st := s_definition_at) l_definition_at c_definition_at k_definition_at
  have B_definition_at := F_definition_at.binds (ps := ["law", "counting", "part", "word"]) fun _ _ _ _ _ _ us hl => us_4 (fun _ _ _ _ => rfl) us hl
  have D_definition_at : FnD P w K mg base "definition_at" 1 ["law", "counting", "part", "word"] (sp_definition_at ⟨CLaw, CPart, CDefinition⟩) := FnD.mk F_definition_at (PySem.W.mg_of X G a_definition_at) B_definition_at (ok_definition_at F_definition_at T)
  have F_definitions_at := fun_mk (st := s_definitions_at) l_definitions_at c_definitions_at k_definitions_at
  have B_definitions_at := F_definitions_at.binds (ps := ["law", "counting", "part", "words"]) fun _ _ _ _ _ _ us hl => us_4 (fun _ _ _ _ => rfl) us hl
  have D_definitions_at : FnD P w K mg base "definitions_at" 2 ["law", "counting", "part", "words"] (sp_definitions_at ⟨CLaw, CPart, CDefinition⟩) := FnD.mk F_definitions_at (PySem.W.mg_of X G a_definitions_at) B_definitions_at (ok_definitions_at F_definitions_at T D_definition_at)
  have F_definitions_in_body := fun_mk (st := s_definitions_in_body) l_definitions_in_body c_definitions_in_body k_definitions_in_body
  have B_definitions_in_body := F_definitions_in_body.binds (ps := ["law", "counting", "number"]) fun _ _ _ _ _ _ us hl => us_3 (fun _ _ _ => rfl) us hl
  have D_definitions_in_body : FnD P w K mg base "definitions_in_body" 3 ["law", "counting", "number"] (sp_definitions_in_body ⟨CLaw, CPart, CDefinition⟩) := FnD.mk F_definitions_in_body (PySem.W.mg_of X G a_definitions_in_body) B_definitions_in_body (ok_definitions_in_body F_definitions_in_body T D_definitions_at)
  have F_is_hidden := fun_mk (st := s_is_hidden) l_is_hidden c_is_hidden k_is_hidden
  have B_is_hidden := F_is_hidden.binds (ps := ["law", "counting", "number"]) fun _ _ _ _ _ _ us hl => us_3 (fun _ _ _ => rfl) us hl
  have D_is_hidden : FnD P w K mg base "is_hidden" 2 ["law", "counting", "number"] (sp_is_hidden ⟨CLaw, CPart, CDefinition⟩) := FnD.mk F_is_hidden (PySem.W.mg_of X G a_is_hidden) B_is_hidden (ok_is_hidden F_is_hidden T D_definition_at)
  have F_hidden_on := fun_mk (st := s_hidden_on) l_hidden_on c_hidden_on k_hidden_on
  have B_hidden_on := F_hidden_on.binds (ps := ["law", "day"]) fun _ _ _ _ _ _ us hl => us_2 (fun _ _ => rfl) us hl
  have D_hidden_on : FnD P w K mg base "hidden_on" 4 ["law", "day"] (sp_some ⟨CLaw, CPart, CDefinition⟩ Si51.hidden) := FnD.mk F_hidden_on (PySem.W.mg_of X G a_hidden_on) B_hidden_on (ok_hidden_on F_hidden_on T D_counting_on D_numbers_in_force D_is_hidden)
  have F_turning_days := fun_mk (st := s_turning_days) l_turning_days c_turning_days k_turning_days
  have B_turning_days := F_turning_days.binds (ps := ["law"]) fun _ _ _ _ _ _ us hl => us_1 (fun _ => rfl) us hl
  have D_turning_days : FnD P w K mg base "turning_days" 1 ["law"] (sp_turning_days ⟨CLaw, CPart, CDefinition⟩) := FnD.mk F_turning_days (PySem.W.mg_of X G a_turning_days) B_turning_days (ok_turning_days F_turning_days T)
  have F_all_spelled := fun_mk (st := s_all_spelled) l_all_spelled c_all_spelled k_all_spelled
  have B_all_spelled := F_all_spelled.binds (ps := ["links", "spelled"]) fun _ _ _ _ _ _ us hl => us_2 (fun _ _ => rfl) us hl
  have D_all_spelled : FnD P w K mg base "all_spelled" 1 ["links", "spelled"] sp_all_spelled := FnD.mk F_all_spelled (PySem.W.mg_of X G a_all_spelled) B_all_spelled (ok_all_spelled F_all_spelled T)
  have F_put_together := fun_mk (st := s_put_together) l_put_together c_put_together k_put_together
  have B_put_together := F_put_together.binds (ps := ["words", "links", "spelled"]) fun _ _ _ _ _ _ us hl => us_3 (fun _ _ _ => rfl) us hl
  have D_put_together : FnD P w K mg base "put_together" 1 ["words", "links", "spelled"] sp_put_together := FnD.mk F_put_together (PySem.W.mg_of X G a_put_together) B_put_together (ok_put_together F_put_together T)
  have F_links_of_bodies := fun_mk (st := s_links_of_bodies) l_links_of_bodies c_links_of_bodies k_links_of_bodies
  have B_links_of_bodies := F_links_of_bodies.binds (ps := ["law", "counting", "numbers"]) fun _ _ _ _ _ _ us hl => us_3 (fun _ _ _ => rfl) us hl
  have D_links_of_bodies : FnD P w K mg base "links_of_bodies" 4 ["law", "counting", "numbers"] (sp_links_of_bodies ⟨CLaw, CPart, CDefinition⟩) := FnD.mk F_links_of_bodies (PySem.W.mg_of X G a_links_of_bodies) B_links_of_bodies (ok_links_of_bodies F_links_of_bodies T D_definitions_in_body)
  have F_spelled_bodies := fun_mk (st := s_spelled_bodies) l_spelled_bodies c_spelled_bodies k_spelled_bodies
  have B_spelled_bodies := F_spelled_bodies.binds (ps := ["law", "counting", "numbers"]) fun _ _ _ _ _ _ us hl => us_3 (fun _ _ _ => rfl) us hl
  have D_spelled_bodies : FnD P w K mg base "spelled_bodies" 5 ["law", "counting", "numbers"] (sp_spelled_bodies ⟨CLaw, CPart, CDefinition⟩) := FnD.mk F_spelled_bodies (PySem.W.mg_of X G a_spelled_bodies) B_spelled_bodies (ok_spelled_bodies F_spelled_bodies T D_links_of_bodies D_all_spelled D_put_together)
  have F_spelled_out := fun_mk (st := s_spelled_out) l_spelled_out c_spelled_out k_spelled_out
  have B_spelled_out := F_spelled_out.binds (ps := ["law", "part", "day", "words"]) fun _ _ _ _ _ _ us hl => us_4 (fun _ _ _ _ => rfl) us hl
  have D_spelled_out : FnD P w K mg base "spelled_out" 6 ["law", "part", "day", "words"] (sp_spelled_out ⟨CLaw, CPart, CDefinition⟩) := FnD.mk F_spelled_out (PySem.W.mg_of X G a_spelled_out) B_spelled_out (ok_spelled_out F_spelled_out T D_counting_on D_numbers_in_force D_spelled_bodies D_definitions_at D_all_spelled D_put_together)
  have F_definitions_in_texts := fun_mk (st := s_definitions_in_texts) l_definitions_in_texts c_definitions_in_texts k_definitions_in_texts
  have B_definitions_in_texts := F_definitions_in_texts.binds (ps := ["law", "counting"]) fun _ _ _ _ _ _ us hl => us_2 (fun _ _ => rfl) us hl
  have D_definitions_in_texts : FnD P w K mg base "definitions_in_texts" 3 ["law", "counting"] (sp_definitions_in_texts ⟨CLaw, CPart, CDefinition⟩) := FnD.mk F_definitions_in_texts (PySem.W.mg_of X G a_definitions_in_texts) B_definitions_in_texts (ok_definitions_in_texts F_definitions_in_texts T D_definitions_at)
  have F_needed_on := fun_mk (st := s_needed_on) l_needed_on c_needed_on k_needed_on
  have B_needed_on := F_needed_on.binds (ps := ["law", "day"]) fun _ _ _ _ _ _ us hl => us_2 (fun _ _ => rfl) us hl
  have D_needed_on : FnD P w K mg base "needed_on" 4 ["law", "day"] (sp_needed_on ⟨CLaw, CPart, CDefinition⟩) := FnD.mk F_needed_on (PySem.W.mg_of X G a_needed_on) B_needed_on (ok_needed_on F_needed_on T D_counting_on D_definitions_in_texts D_definitions_in_body)
  have F_unused_on := fun_mk (st := s_unused_on) l_unused_on c_unused_on k_unused_on
  have B_unused_on := F_unused_on.binds (ps := ["law", "day"]) fun _ _ _ _ _ _ us hl => us_2 (fun _ _ => rfl) us hl
  have D_unused_on : FnD P w K mg base "unused_on" 5 ["law", "day"] (sp_some ⟨CLaw, CPart, CDefinition⟩ Si51.unused) := FnD.mk F_unused_on (PySem.W.mg_of X G a_unused_on) B_unused_on (ok_unused_on F_unused_on T D_needed_on D_numbers_in_force)
  have F_leading_into_circles := fun_mk (st := s_leading_into_circles) l_leading_into_circles c_leading_into_circles k_leading_into_circles
  have B_leading_into_circles := F_leading_into_circles.binds (ps := ["law", "day"]) fun _ _ _ _ _ _ us hl => us_2 (fun _ _ => rfl) us hl
  have D_leading_into_circles : FnD P w K mg base "leading_into_circles" 6 ["law", "day"] (sp_some ⟨CLaw, CPart, CDefinition⟩ Si51.circles) := FnD.mk F_leading_into_circles (PySem.W.mg_of X G a_leading_into_circles) B_leading_into_circles (ok_leading_into_circles F_leading_into_circles T D_numbers_in_force D_spelled_bodies D_counting_on)
  have F_wrong_word := fun_mk (st := s_wrong_word) l_wrong_word c_wrong_word k_wrong_word
  have B_wrong_word := F_wrong_word.binds (ps := ["word"]) fun _ _ _ _ _ _ us hl => us_1 (fun _ => rfl) us hl
  have D_wrong_word : FnD P w K mg base "wrong_word" 1 ["word"] sp_wrong_word := FnD.mk F_wrong_word (PySem.W.mg_of X G a_wrong_word) B_wrong_word (ok_wrong_word F_wrong_word T)
  have F_wrong_words := fun_mk (st := s_wrong_words) l_wrong_words c_wrong_words k_wrong_words
  have B_wrong_words := F_wrong_words.binds (ps := ["words"]) fun _ _ _ _ _ _ us hl => us_1 (fun _ => rfl) us hl
  have D_wrong_words : FnD P w K mg base "wrong_words" 2 ["words"] sp_wrong_words := FnD.mk F_wrong_words (PySem.W.mg_of X G a_wrong_words) B_wrong_words (ok_wrong_words F_wrong_words T D_wrong_word)
  have F_wrong_end := fun_mk (st := s_wrong_end) l_wrong_end c_wrong_end k_wrong_end
  have B_wrong_end := F_wrong_end.binds (ps := ["since", "until"]) fun _ _ _ _ _ _ us hl => us_2 (fun _ _ => rfl) us hl
  have D_wrong_end : FnD P w K mg base "wrong_end" 1 ["since", "until"] sp_wrong_end := FnD.mk F_wrong_end (PySem.W.mg_of X G a_wrong_end) B_wrong_end (ok_wrong_end F_wrong_end T)
  have F_wrong_days := fun_mk (st := s_wrong_days) l_wrong_days c_wrong_days k_wrong_days
  have B_wrong_days := F_wrong_days.binds (ps := ["since", "until"]) fun _ _ _ _ _ _ us hl => us_2 (fun _ _ => rfl) us hl
  have D_wrong_days : FnD P w K mg base "wrong_days" 2 ["since", "until"] sp_wrong_days := FnD.mk F_wrong_days (PySem.W.mg_of X G a_wrong_days) B_wrong_days (ok_wrong_days F_wrong_days T D_wrong_end)
  have F_renamed := fun_mk (st := s_renamed) l_renamed c_renamed k_renamed
  have B_renamed := F_renamed.binds (ps := ["words", "old", "new"]) fun _ _ _ _ _ _ us hl => us_3 (fun _ _ _ => rfl) us hl
  have D_renamed : FnD P w K mg base "renamed" 1 ["words", "old", "new"] sp_renamed := FnD.mk F_renamed (PySem.W.mg_of X G a_renamed) B_renamed (ok_renamed F_renamed T)
  have F_stands_somewhere := fun_mk (st := s_stands_somewhere) l_stands_somewhere c_stands_somewhere k_stands_somewhere
  have B_stands_somewhere := F_stands_somewhere.binds (ps := ["law", "word"]) fun _ _ _ _ _ _ us hl => us_2 (fun _ _ => rfl) us hl
  have D_stands_somewhere : FnD P w K mg base "stands_somewhere" 1 ["law", "word"] (sp_stands_somewhere ⟨CLaw, CPart, CDefinition⟩) := FnD.mk F_stands_somewhere (PySem.W.mg_of X G a_stands_somewhere) B_stands_somewhere (ok_stands_somewhere F_stands_somewhere T)
  have F_Part := fun_mk (st := s_Part___init__) l_Part c_Part k_Part
  have B_Part := F_Part.binds (ps := ["self", "above", "words"]) fun _ _ _ _ _ _ us hl => us_3 (fun _ _ _ => rfl) us hl
  have D_Part : MkD P w K mg base "Part" CPart 1 ["self", "above", "words"] (sp_Part ⟨CLaw, CPart, CDefinition⟩) := ⟨_, _, PySem.W.mg_of X G aC_Part, ⟨mk_Part, a_Part, i_Part, kc_Part⟩, B_Part, ok_Part F_Part T⟩
  have F_Definition := fun_mk (st := s_Definition___init__) l_Definition c_Definition k_Definition
  have B_Definition := F_Definition.binds (ps := ["self", "part", "word", "since", "until", "body"]) fun _ _ _ _ _ _ us hl => us_6 (fun _ _ _ _ _ _ => rfl) us hl
  have D_Definition : MkD P w K mg base "Definition" CDefinition 1 ["self", "part", "word", "since", "until", "body"] (sp_Definition ⟨CLaw, CPart, CDefinition⟩) := ⟨_, _, PySem.W.mg_of X G aC_Definition, ⟨mk_Definition, a_Definition, i_Definition, kc_Definition⟩, B_Definition, ok_Definition F_Definition T⟩
  have F_add_part := fun_mk (st := s_add_part) l_add_part c_add_part k_add_part
  have B_add_part := F_add_part.binds (ps := ["law", "numbers"]) fun _ _ _ _ _ _ us hl => us_2 (fun _ _ => rfl) us hl
  have D_add_part : FnD P w K mg base "add_part" 3 ["law", "numbers"] (sp_add_part ⟨CLaw, CPart, CDefinition⟩) := FnD.mk F_add_part (PySem.W.mg_of X G a_add_part) B_add_part (ok_add_part F_add_part T D_wrong_words D_Part)
  have F_define := fun_mk (st := s_define) l_define c_define k_define
  have B_define := F_define.binds (ps := ["law", "numbers"]) fun _ _ _ _ _ _ us hl => us_2 (fun _ _ => rfl) us hl
  have D_define : FnD P w K mg base "define" 3 ["law", "numbers"] (sp_define ⟨CLaw, CPart, CDefinition⟩) := FnD.mk F_define (PySem.W.mg_of X G a_define) B_define (ok_define F_define T D_wrong_word D_wrong_days D_wrong_words D_Definition)
  have F_ends := fun_mk (st := s_ends) l_ends c_ends k_ends
  have B_ends := F_ends.binds (ps := ["law", "numbers"]) fun _ _ _ _ _ _ us hl => us_2 (fun _ _ => rfl) us hl
  have D_ends : FnD P w K mg base "ends" 2 ["law", "numbers"] (sp_ends ⟨CLaw, CPart, CDefinition⟩) := FnD.mk F_ends (PySem.W.mg_of X G a_ends) B_ends (ok_ends F_ends T D_wrong_end)
  have F_rename := fun_mk (st := s_rename) l_rename c_rename k_rename
  have B_rename := F_rename.binds (ps := ["law", "numbers"]) fun _ _ _ _ _ _ us hl => us_2 (fun _ _ => rfl) us hl
  have D_rename : FnD P w K mg base "rename" 2 ["law", "numbers"] (sp_rename ⟨CLaw, CPart, CDefinition⟩) := FnD.mk F_rename (PySem.W.mg_of X G a_rename) B_rename (ok_rename F_rename T D_wrong_word D_stands_somewhere D_renamed)
  have F_means := fun_mk (st := s_means) l_means c_means k_means
  have B_means := F_means.binds (ps := ["law", "numbers"]) fun _ _ _ _ _ _ us hl => us_2 (fun _ _ => rfl) us hl
  have D_means : FnD P w K mg base "means" 4 ["law", "numbers"] (sp_means ⟨CLaw, CPart, CDefinition⟩) := FnD.mk F_means (PySem.W.mg_of X G a_means) B_means (ok_means F_means T D_definition_at D_counting_on)
  have F_too_long := fun_mk (st := s_too_long) l_too_long c_too_long k_too_long
  have B_too_long := F_too_long.binds (ps := ["longer"]) fun _ _ _ _ _ _ us hl => us_1 (fun _ => rfl) us hl
  have D_too_long : FnD P w K mg base "too_long" 1 ["longer"] sp_too_long := FnD.mk F_too_long (PySem.W.mg_of X G a_too_long) B_too_long (ok_too_long F_too_long T)
  have F_counted := fun_mk (st := s_counted) l_counted c_counted k_counted
  have B_counted := F_counted.binds (ps := ["found"]) fun _ _ _ _ _ _ us hl => us_1 (fun _ => rfl) us hl
  have D_counted : FnD P w K mg base "counted" 1 ["found"] sp_counted := FnD.mk F_counted (PySem.W.mg_of X G a_counted) B_counted (ok_counted F_counted T)
  have F_spelled_answer := fun_mk (st := s_spelled_answer) l_spelled_answer c_spelled_answer k_spelled_answer
  have B_spelled_answer := F_spelled_answer.binds (ps := ["longer"]) fun _ _ _ _ _ _ us hl => us_1 (fun _ => rfl) us hl
  have D_spelled_answer : FnD P w K mg base "spelled_answer" 2 ["longer"] sp_spelled_answer := FnD.mk F_spelled_answer (PySem.W.mg_of X G a_spelled_answer) B_spelled_answer (ok_spelled_answer F_spelled_answer T D_too_long D_counted)
  have F_spell := fun_mk (st := s_spell) l_spell c_spell k_spell
  have B_spell := F_spell.binds (ps := ["law", "numbers"]) fun _ _ _ _ _ _ us hl => us_2 (fun _ _ => rfl) us hl
  have D_spell : FnD P w K mg base "spell" 7 ["law", "numbers"] (sp_spell ⟨CLaw, CPart, CDefinition⟩) := FnD.mk F_spell (PySem.W.mg_of X G a_spell) B_spell (ok_spell F_spell T D_wrong_words D_spelled_out D_spelled_answer)
  have F_text := fun_mk (st := s_text) l_text c_text k_text
  have B_text := F_text.binds (ps := ["law", "numbers"]) fun _ _ _ _ _ _ us hl => us_2 (fun _ _ => rfl) us hl
  have D_text : FnD P w K mg base "text" 7 ["law", "numbers"] (sp_text ⟨CLaw, CPart, CDefinition⟩) := FnD.mk F_text (PySem.W.mg_of X G a_text) B_text (ok_text F_text T D_spelled_out D_spelled_answer)
  have F_circles := fun_mk (st := s_circles) l_circles c_circles k_circles
  have B_circles := F_circles.binds (ps := ["law", "numbers"]) fun _ _ _ _ _ _ us hl => us_2 (fun _ _ => rfl) us hl
  have D_circles : FnD P w K mg base "circles" 7 ["law", "numbers"] (sp_day ⟨CLaw, CPart, CDefinition⟩ .circles) := FnD.mk F_circles (PySem.W.mg_of X G a_circles) B_circles (ok_circles F_circles T D_counted D_leading_into_circles)
  have F_unused := fun_mk (st := s_unused) l_unused c_unused k_unused
  have B_unused := F_unused.binds (ps := ["law", "numbers"]) fun _ _ _ _ _ _ us hl => us_2 (fun _ _ => rfl) us hl
  have D_unused : FnD P w K mg base "unused" 6 ["law", "numbers"] (sp_day ⟨CLaw, CPart, CDefinition⟩ .unused) := FnD.mk F_unused (PySem.W.mg_of X G a_unused) B_unused (ok_unused F_unused T D_counted D_unused_on)
  have F_hidden := fun_mk (st := s_hidden) l_hidden c_hidden k_hidden
  have B_hidden := F_hidden.binds (ps := ["law", "numbers"]) fun _ _ _ _ _ _ us hl => us_2 (fun _ _ => rfl) us hl
  have D_hidden : FnD P w K mg base "hidden" 5 ["law", "numbers"] (sp_day ⟨CLaw, CPart, CDefinition⟩ .hidden) := FnD.mk F_hidden (PySem.W.mg_of X G a_hidden) B_hidden (ok_hidden F_hidden T D_counted D_hidden_on)
  have F_Law_begin := fun_mk (st := s_Law_begin) l_Law_begin c_Law_begin k_Law_begin
  have B_Law_begin := F_Law_begin.binds (ps := ["self"]) fun _ _ _ _ _ _ us hl => us_1 (fun _ => rfl) us hl
  have D_Law_begin : MtD P w K mg base CLaw "begin" 3 ["self"] (sp_Law_begin ⟨CLaw, CPart, CDefinition⟩) := ⟨_, _, ⟨a_Law_begin, i_Law_begin, k_Law_begin⟩, B_Law_begin, ok_Law_begin F_Law_begin T D_Part⟩
  have F_Law := fun_mk (st := s_Law___init__) l_Law c_Law k_Law
  have B_Law := F_Law.binds (ps := ["self"]) fun _ _ _ _ _ _ us hl => us_1 (fun _ => rfl) us hl
  have D_Law : MkD P w K mg base "Law" CLaw 4 ["self"] (sp_Law ⟨CLaw, CPart, CDefinition⟩) := ⟨_, _, PySem.W.mg_of X G aC_Law, ⟨mk_Law, a_Law, i_Law, kc_Law⟩, B_Law, ok_Law F_Law T D_Law_begin⟩
  have F_begins := fun_mk (st := s_begins) l_begins c_begins k_begins
  have B_begins := F_begins.binds (ps := ["law", "numbers"]) fun _ _ _ _ _ _ us hl => us_2 (fun _ _ => rfl) us hl
  have D_begins : FnD P w K mg base "begins" 4 ["law", "numbers"] (sp_begins ⟨CLaw, CPart, CDefinition⟩) := FnD.mk F_begins (PySem.W.mg_of X G a_begins) B_begins (ok_begins F_begins T D_Law_begin)
  have F_differs := fun_mk (st := s_differs) l_differs c_differs k_differs
  have B_differs := F_differs.binds (ps := ["law", "numbers"]) fun _ _ _ _ _ _ us hl => us_2 (fun _ _ => rfl) us hl
  have D_differs : FnD P w K mg base "differs" 4 ["law", "numbers"] (sp_differs ⟨CLaw, CPart, CDefinition⟩) := FnD.mk F_differs (PySem.W.mg_of X G a_differs) B_differs (ok_differs F_differs T D_wrong_words D_counting_on D_definitions_at D_counted)
  have F_changes := fun_mk (st := s_changes) l_changes c_changes k_changes
  have B_changes := F_changes.binds (ps := ["law", "numbers"]) fun _ _ _ _ _ _ us hl => us_2 (fun _ _ => rfl) us hl
  have D_changes : FnD P w K mg base "changes" 7 ["law", "numbers"] (sp_changes ⟨CLaw, CPart, CDefinition⟩) := FnD.mk F_changes (PySem.W.mg_of X G a_changes) B_changes (ok_changes F_changes T D_wrong_words D_turning_days D_spelled_out D_too_long D_counted)
  have F_answers := fun_mk (st := s_answers) l_answers c_answers k_answers
  have CO : CallsOk P w K mg base ⟨CLaw, CPart, CDefinition⟩ ct 8 := by
    refine ⟨[f_begins, f_add_part, f_define, f_ends, f_rename, f_means, f_spell, f_text, f_circles, f_unused, f_hidden, f_differs, f_changes], rfl, fun H => .inr ⟨_, #[.ref f_begins, .ref f_add_part, .ref f_define, .ref f_ends, .ref f_rename, .ref f_means, .ref f_spell, .ref f_text, .ref f_circles, .ref f_unused, .ref f_hidden, .ref f_differs, .ref f_changes], nT, t2, rfl, rfl, (by show 13 ≤ sizeLine; decide), .cons rfl (.cons rfl (.cons rfl (.cons rfl (.cons rfl (.cons rfl (.cons rfl (.cons rfl (.cons rfl (.cons rfl (.cons rfl (.cons rfl (.cons rfl (.nil)))))))))))))⟩, thirteen ?_ ?_ ?_ ?_ ?_ ?_ ?_ ?_ ?_ ?_ ?_ ?_ ?_⟩
    · exact ⟨k_begins, _, _, B_begins, (call_begins (ok_begins F_begins T D_Law_begin)).mono (by decide)⟩
    · exact ⟨k_add_part, _, _, B_add_part, (call_add_part (ok_add_part F_add_part T D_wrong_words D_Part)).mono (by decide)⟩
    · exact ⟨k_define, _, _, B_define, (call_define (ok_define F_define T D_wrong_word D_wrong_days D_wrong_words D_Definition)).mono (by decide)⟩
    · exact ⟨k_ends, _, _, B_ends, (call_ends (ok_ends F_ends T D_wrong_end)).mono (by decide)⟩
    · exact ⟨k_rename, _, _, B_rename, (call_rename (ok_rename F_rename T D_wrong_word D_stands_somewhere D_renamed)).mono (by decide)⟩
    · exact ⟨k_means, _, _, B_means, (call_means (ok_means F_means T D_definition_at D_counting_on)).mono (by decide)⟩
    · exact ⟨k_spell, _, _, B_spell, (call_spell (ok_spell F_spell T D_wrong_words D_spelled_out D_spelled_answer)).mono (by decide)⟩
    · exact ⟨k_text, _, _, B_text, (call_text (ok_text F_text T D_spelled_out D_spelled_answer)).mono (by decide)⟩
    · exact ⟨k_circles, _, _, B_circles, (call_circles (ok_circles F_circles T D_counted D_leading_into_circles)).mono (by decide)⟩
    · exact ⟨k_unused, _, _, B_unused, (call_unused (ok_unused F_unused T D_counted D_unused_on)).mono (by decide)⟩
    · exact ⟨k_hidden, _, _, B_hidden, (call_hidden (ok_hidden F_hidden T D_counted D_hidden_on)).mono (by decide)⟩
    · exact ⟨k_differs, _, _, B_differs, (call_differs (ok_differs F_differs T D_wrong_words D_counting_on D_definitions_at D_counted)).mono (by decide)⟩
    · exact ⟨k_changes, _, _, B_changes, (call_changes (ok_changes F_changes T D_wrong_words D_turning_days D_spelled_out D_too_long D_counted)).mono (by decide)⟩
  exact ok_answers F_answers T (PySem.W.mg_of X G t1) CO D_Law
end Lw
open PySem PySem.W PyProof.Rows
set_option maxRecDepth 100000 in
set_option maxHeartbeats 0 in
theorem PySem.Challenge.cw_lawwords_s01_answers_holds : PySem.Challenge.rw_lawwords_s01_answers.Holds := by
  w_on; k_headS; (case hw => exact ⟨[.list [.int 0, .int 0, .int 0]], by decide +kernel, by decide +kernel⟩)
  k_fillS
  refine L2.walk_specK (r := PySem.Challenge.rw_lawwords_s01_answers) (k := 9) (CX := L2.CX0) (ps := ["calls"]) (sp := Lw.sp_answers) (by decide +kernel) rfl rfl ⟨rfl, by decide, by decide⟩ (fun w h Y => PySem.W.kIn_of Y) ?F ?S (fun _ _ _ _ z => z)
  case F =>
    intro w mg fa h Y KX G hmg
    refine' Lw.all_mk KX G hmg ?aC_Law ?pg_Law ?hd_Law ?po_Law ?sa_Law ?mk_Law ?kc_Law ?n_Law_parts ?n_Law_definitions ?aC_Part ?pg_Part ?hd_Part ?po_Part ?sa_Part ?mk_Part ?kc_Part ?n_Part_above ?n_Part_words ?aC_Definition ?pg_Definition ?hd_Definition ?po_Definition ?sa_Definition ?mk_Definition ?kc_Definition ?n_Definition_part ?n_Definition_word ?n_Definition_since ?n_Definition_until ?n_Definition_body ?a_in_force ?l_in_force ?c_in_force ?k_in_force ?a_numbers_in_force ?l_numbers_in_force ?c_numbers_in_force ?k_numbers_in_force ?a_counting_on ?l_counting_on ?c_counting_on ?k_counting_on ?a_definition_at ?l_definition_at ?c_definition_at ?k_definition_at ?a_definitions_at ?l_definitions_at ?c_definitions_at ?k_definitions_at ?a_definitions_in_body ?l_definitions_in_body ?c_definitions_in_body ?k_definitions_in_body ?a_is_hidden ?l_is_hidden ?c_is_hidden ?k_is_hidden ?a_hidden_on ?l_hidden_on ?c_hidden_on ?k_hidden_on ?a_turning_days ?l_turning_days ?c_turning_days ?k_turning_days ?a_all_spelled ?l_all_spelled ?c_all_spelled ?k_all_spelled ?a_put_together ?l_put_together ?c_put_together ?k_put_together ?a_links_of_bodies ?l_links_of_bodies ?c_links_of_bodies ?k_links_of_bodies ?a_spelled_bodies ?l_spelled_bodies ?c_spelled_bodies ?k_spelled_bodies ?a_spelled_out ?l_spelled_out ?c_spelled_out ?k_spelled_out ?a_definitions_in_texts ?l_definitions_in_texts ?c_definitions_in_texts ?k_definitions_in_texts ?a_needed_on ?l_needed_on ?c_needed_on ?k_needed_on ?a_unused_on ?l_unused_on ?c_unused_on ?k_unused_on ?a_leading_into_circles ?l_leading_into_circles ?c_leading_into_circles ?k_leading_into_circles ?a_wrong_word ?l_wrong_word ?c_wrong_word ?k_wrong_word ?a_wrong_words ?l_wrong_words ?c_wrong_words ?k_wrong_words ?a_wrong_end ?l_wrong_end ?c_wrong_end ?k_wrong_end ?a_wrong_days ?l_wrong_days ?c_wrong_days ?k_wrong_days ?a_renamed ?l_renamed ?c_renamed ?k_renamed ?a_stands_somewhere ?l_stands_somewhere ?c_stands_somewhere ?k_stands_somewhere ?a_Part ?i_Part ?l_Part ?c_Part ?k_Part ?a_Definition ?i_Definition ?l_Definition ?c_Definition ?k_Definition ?a_add_part ?l_add_part ?c_add_part ?k_add_part ?a_define ?l_define ?c_define ?k_define ?a_ends ?l_ends ?c_ends ?k_ends ?a_rename ?l_rename ?c_rename ?k_rename ?a_means ?l_means ?c_means ?k_means ?a_too_long ?l_too_long ?c_too_long ?k_too_long ?a_counted ?l_counted ?c_counted ?k_counted ?a_spelled_answer ?l_spelled_answer ?c_spelled_answer ?k_spelled_answer ?a_spell ?l_spell ?c_spell ?k_spell ?a_text ?l_text ?c_text ?k_text ?a_circles ?l_circles ?c_circles ?k_circles ?a_unused ?l_unused ?c_unused ?k_unused ?a_hidden ?l_hidden ?c_hidden ?k_hidden ?a_Law_begin ?i_Law_begin ?l_Law_begin ?c_Law_begin ?k_Law_begin ?a_Law ?i_Law ?l_Law ?c_Law ?k_Law ?a_begins ?l_begins ?c_begins ?k_begins ?a_differs ?l_differs ?c_differs ?k_differs ?a_changes ?l_changes ?c_changes ?k_changes ?a_answers ?l_answers ?c_answers ?k_answers ?g_WITHOUT_END ?g_MOST_SPELLED ?g_WRONG ?g_NOT_THERE ?g_TAKEN ?g_TOO_MUCH ?g_STANDS_NOWHERE ?g_IN_A_CIRCLE ?g_MOST_WORDS ?g_LAST_WORD ?g_LAST_DAY ?g_MOST_PARTS ?g_MOST_DEFINITIONS ?b_len ?b_any ?b_all ?b_enumerate ?b_zip ?b_range ?b_set ?b_sorted ?t1 ?t2
    (case aC_Law => k_is)
    (case pg_Law => k_is)
    (case hd_Law => k_is)
    (case po_Law => k_is)
    (case sa_Law => k_is)
    (case mk_Law => k_is)
    (case kc_Law => k_is)
    (case n_Law_parts => k_is)
    (case n_Law_definitions => k_is)
    (case aC_Part => k_is)
    (case pg_Part => k_is)
    (case hd_Part => k_is)
    (case po_Part => k_is)
    (case sa_Part => k_is)
    (case mk_Part => k_is)
    (case kc_Part => k_is)
    (case n_Part_above => k_is)
    (case n_Part_words => k_is)
    (case aC_Definition => k_is)
    (case pg_Definition => k_is)
    (case hd_Definition => k_is)
    (case po_Definition => k_is)
    (case sa_Definition => k_is)
    (case mk_Definition => k_is)
    (case kc_Definition => k_is)
    (case n_Definition_part => k_is)
    (case n_Definition_word => k_is)
    (case n_Definition_since => k_is)
    (case n_Definition_until => k_is)
    (case n_Definition_body => k_is)
    (case a_in_force => k_is)
    (case l_in_force => k_is)
    (case c_in_force => k_is)
    (case k_in_force => k_is)
    (case a_numbers_in_force => k_is)
    (case l_numbers_in_force => k_is)
    (case c_numbers_in_force => k_is)
    (case k_numbers_in_force => k_is)
    (case a_counting_on => k_is)
    (case l_counting_on => k_is)
    (case c_counting_on => k_is)
    (case k_counting_on => k_is)
    (case a_definition_at => k_is)
    (case l_definition_at => k_is)
    (case c_definition_at => k_is)
    (case k_definition_at => k_is)
    (case a_definitions_at => k_is)
    (case l_definitions_at => k_is)
    (case c_definitions_at => k_is)
    (case k_definitions_at => k_is)
    (case a_definitions_in_body => k_is)
    (case l_definitions_in_body => k_is)
    (case c_definitions_in_body => k_is)
    (case k_definitions_in_body => k_is)
    (case a_is_hidden => k_is)
    (case l_is_hidden => k_is)
    (case c_is_hidden => k_is)
    (case k_is_hidden => k_is)
    (case a_hidden_on => k_is)
    (case l_hidden_on => k_is)
    (case c_hidden_on => k_is)
    (case k_hidden_on => k_is)
    (case a_turning_days => k_is)
    (case l_turning_days => k_is)
    (case c_turning_days => k_is)
    (case k_turning_days => k_is)
    (case a_all_spelled => k_is)
    (case l_all_spelled => k_is)
    (case c_all_spelled => k_is)
    (case k_all_spelled => k_is)
    (case a_put_together => k_is)
    (case l_put_together => k_is)
    (case c_put_together => k_is)
    (case k_put_together => k_is)
    (case a_links_of_bodies => k_is)
    (case l_links_of_bodies => k_is)
    (case c_links_of_bodies => k_is)
    (case k_links_of_bodies => k_is)
    (case a_spelled_bodies => k_is)
    (case l_spelled_bodies => k_is)
    (case c_spelled_bodies => k_is)
    (case k_spelled_bodies => k_is)
    (case a_spelled_out => k_is)
    (case l_spelled_out => k_is)
    (case c_spelled_out => k_is)
    (case k_spelled_out => k_is)
    (case a_definitions_in_texts => k_is)
    (case l_definitions_in_texts => k_is)
    (case c_definitions_in_texts => k_is)
    (case k_definitions_in_texts => k_is)
    (case a_needed_on => k_is)
    (case l_needed_on => k_is)
    (case c_needed_on => k_is)
    (case k_needed_on => k_is)
    (case a_unused_on => k_is)
    (case l_unused_on => k_is)
    (case c_unused_on => k_is)
    (case k_unused_on => k_is)
    (case a_leading_into_circles => k_is)
    (case l_leading_into_circles => k_is)
    (case c_leading_into_circles => k_is)
    (case k_leading_into_circles => k_is)
    (case a_wrong_word => k_is)
    (case l_wrong_word => k_is)
    (case c_wrong_word => k_is)
    (case k_wrong_word => k_is)
    (case a_wrong_words => k_is)
    (case l_wrong_words => k_is)
    (case c_wrong_words => k_is)
    (case k_wrong_words => k_is)
    (case a_wrong_end => k_is)
    (case l_wrong_end => k_is)
    (case c_wrong_end => k_is)
    (case k_wrong_end => k_is)
    (case a_wrong_days => k_is)
    (case l_wrong_days => k_is)
    (case c_wrong_days => k_is)
    (case k_wrong_days => k_is)
    (case a_renamed => k_is)
    (case l_renamed => k_is)
    (case c_renamed => k_is)
    (case k_renamed => k_is)
    (case a_stands_somewhere => k_is)
    (case l_stands_somewhere => k_is)
    (case c_stands_somewhere => k_is)
    (case k_stands_somewhere => k_is)
    (case a_Part => k_is)
    (case i_Part => k_is)
    (case l_Part => k_is)
    (case c_Part => k_is)
    (case k_Part => k_is)
    (case a_Definition => k_is)
    (case i_Definition => k_is)
    (case l_Definition => k_is)
    (case c_Definition => k_is)
    (case k_Definition => k_is)
    (case a_add_part => k_is)
    (case l_add_part => k_is)
    (case c_add_part => k_is)
    (case k_add_part => k_is)
    (case a_define => k_is)
    (case l_define => k_is)
    (case c_define => k_is)
    (case k_define => k_is)
    (case a_ends => k_is)
    (case l_ends => k_is)
    (case c_ends => k_is)
    (case k_ends => k_is)
    (case a_rename => k_is)
    (case l_rename => k_is)
    (case c_rename => k_is)
    (case k_rename => k_is)
    (case a_means => k_is)
    (case l_means => k_is)
    (case c_means => k_is)
    (case k_means => k_is)
    (case a_too_long => k_is)
    (case l_too_long => k_is)
    (case c_too_long => k_is)
    (case k_too_long => k_is)
    (case a_counted => k_is)
    (case l_counted => k_is)
    (case c_counted => k_is)
    (case k_counted => k_is)
    (case a_spelled_answer => k_is)
    (case l_spelled_answer => k_is)
    (case c_spelled_answer => k_is)
    (case k_spelled_answer => k_is)
    (case a_spell => k_is)
    (case l_spell => k_is)
    (case c_spell => k_is)
    (case k_spell => k_is)
    (case a_text => k_is)
    (case l_text => k_is)
    (case c_text => k_is)
    (case k_text => k_is)
    (case a_circles => k_is)
    (case l_circles => k_is)
    (case c_circles => k_is)
    (case k_circles => k_is)
    (case a_unused => k_is)
    (case l_unused => k_is)
    (case c_unused => k_is)
    (case k_unused => k_is)
    (case a_hidden => k_is)
    (case l_hidden => k_is)
    (case c_hidden => k_is)
    (case k_hidden => k_is)
    (case a_Law_begin => k_is)
    (case i_Law_begin => k_is)
    (case l_Law_begin => k_is)
    (case c_Law_begin => k_is)
    (case k_Law_begin => k_is)
    (case a_Law => k_is)
    (case i_Law => k_is)
    (case l_Law => k_is)
    (case c_Law => k_is)
    (case k_Law => k_is)
    (case a_begins => k_is)
    (case l_begins => k_is)
    (case c_begins => k_is)
    (case k_begins => k_is)
    (case a_differs => k_is)
    (case l_differs => k_is)
    (case c_differs => k_is)
    (case k_differs => k_is)
    (case a_changes => k_is)
    (case l_changes => k_is)
    (case c_changes => k_is)
    (case k_changes => k_is)
    (case a_answers => k_is)
    (case l_answers => k_is)
    (case c_answers => k_is)
    (case k_answers => k_is)
    (case g_WITHOUT_END => k_is)
    (case g_MOST_SPELLED => k_is)
    (case g_WRONG => k_is)
    (case g_NOT_THERE => k_is)
    (case g_TAKEN => k_is)
    (case g_TOO_MUCH => k_is)
    (case g_STANDS_NOWHERE => k_is)
    (case g_IN_A_CIRCLE => k_is)
    (case g_MOST_WORDS => k_is)
    (case g_LAST_WORD => k_is)
    (case g_LAST_DAY => k_is)
    (case g_MOST_PARTS => k_is)
    (case g_MOST_DEFINITIONS => k_is)
    (case b_len => k_is)
    (case b_any => k_is)
    (case b_all => k_is)
    (case b_enumerate => k_is)
    (case b_zip => k_is)
    (case b_range => k_is)
    (case b_set => k_is)
    (case b_sorted => k_is)
    (case t1 => k_is)
    (case t2 => k_is)
  case S =>
    intro K H xs a hO hwi hask hx
    exact Lw.request hwi hask hx

